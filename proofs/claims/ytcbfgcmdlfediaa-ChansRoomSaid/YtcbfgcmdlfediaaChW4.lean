/- Layer 16: the walk of ChansRoom. -/
import Derived.Test.YtcbfgcmdlfediaaChW2
import Derived.Test.YtcbfgcmdlfediaaChW3
import Derived.Deep.LoopGhost
import Derived.Deep.DeepCutAuto
namespace Go.Proofs.Ytcbfgcmdlfediaa
set_option linter.unusedSimpArgs false
set_option linter.unusedVariables false
open Go.RowKit Go.Lib
open Stg (Ch)
theorem litJ16 {J : Nat → Prop} (w : World) (l : List Int) (cs : Array Value) (k n : Nat) (hJ : ∀ j, J j → j < w.heap.size) (hk : w.heap.size = k) (hn : n = l.length) (hcs : cs.toList = cellsI l) (hm : n ≤ maxLen) : RIo J (w.alloc (.cells cs 3)) (.slice (some ⟨k, 0, none⟩) n n) l :=
  rio_own (ownI_lit w.heap.size w l cs k n hk (by omega) hcs hn hm) (fun j hj h => by have := hJ j h; omega)
/-- what a channel becomes, one block behind the other -/
def fillD (L : List (List Int)) (x : Int) (n : Nat) : Ch := ⟨(L ++ [[x], [x]]).take (min n 2), false⟩
theorem fillD_sane {L : List (List Int)} {x : Int} (hs : Stg.saneC ⟨L, false⟩ = true) (n : Nat) : Stg.saneC (fillD L x n) = true := by
  have h := (Stg.saneC_iff _).1 hs
  refine (Stg.saneC_iff _).2 ⟨?_, fun b hb => ?_⟩
  · unfold fillD; rw [List.length_take]; omega
  · rcases List.mem_append.1 (List.mem_of_mem_take hb) with hb | hb
    · exact h.2 b hb
    · have : b = [x] := by simpa using hb
      subst this
      simp
theorem fillD_len {L : List (List Int)} {x : Int} (n : Nat) : (fillD L x n).L.length = min n 2 := by
  unfold fillD
  rw [List.length_take, List.length_append]
  simp only [List.length_cons, List.length_nil]
  omega
theorem fillD_put {L : List (List Int)} {x : Int} (hs : Stg.saneC ⟨L, false⟩ = true) (n : Nat) (hn : L.length ≤ n) : Stg.putC (fillD L x n) [x] = (fillD L x (n + 1), decide (n < 2)) := by
  have hl := fillD_len (L := L) (x := x) n
  unfold Stg.putC
  rw [Stg.asC_same (fillD_sane hs n)]
  by_cases h : n < 2
  · rw [if_pos ⟨rfl, rfl, by rw [hl]; omega⟩, decide_eq_true h]
    unfold fillD
    rw [show min (n + 1) 2 = n + 1 by omega, show min n 2 = n by omega]
    have hlt : n < (L ++ [[x], [x]]).length := by rw [List.length_append]; simp only [List.length_cons, List.length_nil]; omega
    rw [List.take_succ_eq_append_getElem hlt, List.getElem_append_right hn]
    have h1 : ∀ i (hi : i < [[x], [x]].length), [[x], [x]][i] = [x] := fun i hi => by
      have : i < 2 := hi
      match i, this with
      | 0, _ => rfl
      | 1, _ => rfl
    rw [h1]
  · rw [if_neg (fun h2 => h (by have := h2.2.2; rw [hl] at this; omega)), decide_eq_false h]
    unfold fillD
    rw [show min (n + 1) 2 = 2 by omega, show min n 2 = 2 by omega]
theorem fillD_first {L : List (List Int)} {x : Int} (hs : Stg.saneC ⟨L, false⟩ = true) : fillD L x L.length = ⟨L, false⟩ := by
  have h := ((Stg.saneC_iff _).1 hs).1
  unfold fillD
  rw [show min L.length 2 = L.length by have : L.length ≤ 2 := h; omega, List.take_left' rfl]
set_option maxHeartbeats 6400000 in
set_option maxRecDepth 100000 in
theorem chansRoom_walk (hS : SaneC16) (hP : PutC16) (hT : TakeC16) (hC : CloseC16) (hE : SpentC16) (hN : CountC16) (v : Value) (c : Ch) (x : Int) (w : World) (hv : RCh N0 w v c ∧ (∀ l ∈ c.L, WfI l) ∧ c.L.length ≤ maxLen) (hx : -9223372036854775808 ≤ x ∧ x ≤ 9223372036854775807) :
    Calls Try.prog 5 #[v, .int .i64 x] w fun e w' => e = .returned (.bool true) ∧ Below w.heap.size w w' := by
  obtain ⟨rc, _, hmax⟩ := hv
  have hawake := Lib.hid (awake16 hS hP hT hN)
  obtain ⟨p, cap, rfl, _⟩ := rch_form rc
  have bq := Lib.hid (Below.refl w.heap.size w)
  obtain ⟨F, hfew⟩ : ∃ F, fewC c = F := ⟨_, rfl⟩
  have hF := fun h : F = true => fewC_few (hfew.trans h)
  obtain ⟨n, hn⟩ : ∃ n, c.L.length = n := ⟨_, rfl⟩
  obtain ⟨cl, hcl⟩ : ∃ cl, c.closed = cl := ⟨_, rfl⟩
  rw [hn, hcl] at rc ⊢
  replace rc := Lib.hid rc
  replace hfew := Lib.hid hfew
  rcases F with _ | _
  · clear hn hcl hS hP hT hC hE hN hF
    go_enter Try.func5, Try.ntmps5
    replace rc := Lib.hid (rch_below rc.out (below_new w (.cells #[.slice p n cap, .bool cl] 24)))
    replace bq := Lib.hid (below_on bq.out (below_new w (.cells #[.slice p n cap, .bool cl] 24)))
    have x0 := Lib.hid (blk_new w #[.slice p n cap, .bool cl] 24)
    go_wp2_with fail
    refine (hawake.out _).mono ?_
    rintro e w2 ⟨rfl, q2⟩
    replace rc := Lib.hid (rch_below rc.out q2)
    replace x0 := Lib.hid (blk_below x0.out q2)
    replace bq := Lib.hid (below_on bq.out q2)
    clear q2
    have x0_0 := blk_cell x0.out 0 _ rfl
    have x0_1 := blk_cell x0.out 1 _ rfl
    go_wp2_with fail
    refine (rfew16 N0 _ c w2 rc.out hmax).mono ?_
    rintro e w3 ⟨rfl, q3⟩
    clear x0_0 x0_1
    replace rc := Lib.hid (rch_below rc.out q3)
    replace x0 := Lib.hid (blk_below x0.out q3)
    replace bq := Lib.hid (below_on bq.out q3)
    rw [hfew.out]
    clear q3
    go_wp2_with fail
    go_ret
    exact ⟨rfl, bq.out⟩
  · have hf := (hF rfl).1
    have hsane := fun W V (h : RCh N0 W V c) => hS N0 V c W hf h
    obtain ⟨S, hS1⟩ : ∃ q, Stg.saneC c = q := ⟨_, rfl⟩
    rw [hS1] at hsane
    replace hsane := Lib.hid hsane
    rcases S with _ | _
    · clear hn hcl hS hP hT hC hE hN hF
      go_enter Try.func5, Try.ntmps5
      replace rc := Lib.hid (rch_below rc.out (below_new w (.cells #[.slice p n cap, .bool cl] 24)))
      replace bq := Lib.hid (below_on bq.out (below_new w (.cells #[.slice p n cap, .bool cl] 24)))
      have x0 := Lib.hid (blk_new w #[.slice p n cap, .bool cl] 24)
      go_wp2_with fail
      refine (hawake.out _).mono ?_
      rintro e w2 ⟨rfl, q2⟩
      replace rc := Lib.hid (rch_below rc.out q2)
      replace x0 := Lib.hid (blk_below x0.out q2)
      replace bq := Lib.hid (below_on bq.out q2)
      clear q2
      have x0_0 := blk_cell x0.out 0 _ rfl
      have x0_1 := blk_cell x0.out 1 _ rfl
      go_wp2_with fail
      refine (rfew16 N0 _ c w2 rc.out hmax).mono ?_
      rintro e w3 ⟨rfl, q3⟩
      clear x0_0 x0_1
      replace rc := Lib.hid (rch_below rc.out q3)
      replace x0 := Lib.hid (blk_below x0.out q3)
      replace bq := Lib.hid (below_on bq.out q3)
      rw [hfew.out]
      clear q3
      have x0_0 := blk_cell x0.out 0 _ rfl
      have x0_1 := blk_cell x0.out 1 _ rfl
      go_wp2_with fail
      refine (ours16 rc.out).mono ?_
      rintro e w4 ⟨rfl, q4⟩
      clear x0_0 x0_1
      replace rc := Lib.hid (rch_below rc.out q4)
      replace x0 := Lib.hid (blk_below x0.out q4)
      replace bq := Lib.hid (below_on bq.out q4)
      clear q4
      go_wp2_with fail
      refine (hsane.out _ _ rc.out).mono ?_
      rintro e w5 ⟨rfl, q5⟩
      replace rc := Lib.hid (rch_below rc.out q5)
      replace x0 := Lib.hid (blk_below x0.out q5)
      replace bq := Lib.hid (below_on bq.out q5)
      clear q5
      go_wp2_with fail
      go_ret
      exact ⟨rfl, bq.out⟩
    · rcases cl with _ | _
      · have hsF : Stg.saneC ⟨c.L, false⟩ = true := by rw [← hcl]; exact hS1
        have hc : c = ⟨c.L, false⟩ := by rw [← hcl]
        have hD0 := fillD_first (x := x) hsF
        rw [← hc, hn] at hD0
        have hDs := fun m => fillD_sane (x := x) hsF m
        have hDl := fun m => fillD_len (L := c.L) (x := x) m
        have hDp := fun m (h : n ≤ m) => fillD_put (x := x) hsF m (by rw [hn]; exact h)
        have hn2 : n ≤ 2 := by rw [← hn]; exact ((Stg.saneC_iff _).1 hS1).1
        obtain ⟨D, hD⟩ : ∃ D, fillD c.L x = D := ⟨_, rfl⟩
        have hDc : ∀ m, (D m).closed = false := fun m => by rw [← hD]; rfl
        rw [hD] at hD0
        simp only [hD] at hDs hDl hDp
        obtain ⟨⟨q2, l2, o2⟩, hq2⟩ : ∃ q, Stg.takeC (D 4) = q := ⟨_, rfl⟩
        have hD4 : (D 4).L.length = 2 := by rw [hDl]; rfl
        obtain rfl : o2 = true := by
          cases o2 with
          | true => rfl
          | false => have := (take_not hq2).2.2; rw [Stg.asC_same (hDs 4)] at this; rw [this] at hD4; cases hD4
        have hty := take_yes hq2
        rw [Stg.asC_same (hDs 4)] at hty
        have sq2 : Stg.saneC q2 = true := by have := Stg.take_sane (D 4); rw [hq2] at this; exact this
        have hl2 : 1 ≤ l2.length := (((Stg.saneC_iff _).1 (hDs 4)).2 l2 (by rw [hty.1]; simp)).1
        have hq2l : q2.L.length = 1 := by have := hD4; rw [hty.1] at this; simpa using this
        obtain ⟨q3, hq3⟩ : ∃ q, (Stg.putC q2 [x]).1 = q := ⟨_, rfl⟩
        have hp3 : Stg.putC q2 [x] = (q3, true) := by
          rw [← hq3]
          unfold Stg.putC
          rw [Stg.asC_same sq2, if_pos ⟨rfl, by rw [hty.2]; exact hDc 4, by rw [hq2l]; decide⟩]
        have hput := fun m (hm : n ≤ m) (K : Nat) W V U (hK : K < W.heap.size) (h : RCh (fun j => j = K) W V (D m)) (h2 : RIo (fun j => j = K) W U [x]) => put_of16 hP (hDp m hm) (fun j hj => hj ▸ hK) (few_sane (hDs m)) (by simp) h h2
        have htake := fun W V (h : RCh N0 W V (D 4)) => take_of16 hT hq2 (old0 W) (few_sane (hDs 4)) h
        have hput3 := fun W V U (h : RCh N0 W V q2) (h2 : RIo N0 W U [x]) => put_of16 hP hp3 (old0 W) (few_sane sq2) (by simp) h h2
        unfold ToldCB at hput hput3
        unfold ToldCLB at htake
        replace hput := Lib.hid hput
        replace hput3 := Lib.hid hput3
        replace htake := Lib.hid htake
        replace hDs := Lib.hid hDs
        replace hDl := Lib.hid hDl
        replace hDp := Lib.hid hDp
        replace hDc := Lib.hid hDc
        replace hD0 := Lib.hid hD0
        replace hD4 := Lib.hid hD4
        replace hcl := Lib.hid hcl
        replace hn := Lib.hid hn
        clear hq2 hty sq2 hq2l hp3 hq3 hD hS1 hsF hc hS hP hT hC hE hN hF
        go_enter Try.func5, Try.ntmps5
        replace rc := Lib.hid (rch_below rc.out (below_new w (.cells #[.slice p n cap, .bool false] 24)))
        replace bq := Lib.hid (below_on bq.out (below_new w (.cells #[.slice p n cap, .bool false] 24)))
        have x0 := Lib.hid (blk_new w #[.slice p n cap, .bool false] 24)
        go_wp2_with fail
        refine (hawake.out _).mono ?_
        rintro e w2 ⟨rfl, q2⟩
        replace rc := Lib.hid (rch_below rc.out q2)
        replace x0 := Lib.hid (blk_below x0.out q2)
        replace bq := Lib.hid (below_on bq.out q2)
        clear q2
        have x0_0 := blk_cell x0.out 0 _ rfl
        have x0_1 := blk_cell x0.out 1 _ rfl
        go_wp2_with fail
        refine (rfew16 N0 _ c w2 rc.out hmax).mono ?_
        rintro e w3 ⟨rfl, q3⟩
        clear x0_0 x0_1
        replace rc := Lib.hid (rch_below rc.out q3)
        replace x0 := Lib.hid (blk_below x0.out q3)
        replace bq := Lib.hid (below_on bq.out q3)
        rw [hfew.out]
        clear q3
        have x0_0 := blk_cell x0.out 0 _ rfl
        have x0_1 := blk_cell x0.out 1 _ rfl
        go_wp2_with fail
        refine (ours16 rc.out).mono ?_
        rintro e w4 ⟨rfl, q4⟩
        clear x0_0 x0_1
        replace rc := Lib.hid (rch_below rc.out q4)
        replace x0 := Lib.hid (blk_below x0.out q4)
        replace bq := Lib.hid (below_on bq.out q4)
        clear q4
        go_wp2_with fail
        refine (hsane.out _ _ rc.out).mono ?_
        rintro e w5 ⟨rfl, q5⟩
        replace rc := Lib.hid (rch_below rc.out q5)
        replace x0 := Lib.hid (blk_below x0.out q5)
        replace bq := Lib.hid (below_on bq.out q5)
        clear q5
        have x00 := blk_cell x0.out 0 _ rfl
        have x01 := blk_cell x0.out 1 _ rfl
        go_upto_region 4 with (fail)
        go_wp2_with fail
        refine (ours16 rc.out).mono ?_
        rintro e w6 ⟨rfl, q6⟩
        replace rc := Lib.hid (rch_below rc.out q6)
        replace x0 := Lib.hid (blk_below x0.out q6)
        replace bq := Lib.hid (below_on bq.out q6)
        clear q6
        have l6 := bq.out.size
        have r6 := Lib.hid (rch_mono (K := fun j => j = w6.heap.size) (rch_up rc.out) (fun j _ h => .inr (Nat.le_of_eq h.symm)))
        replace rc := Lib.hid (rch_below rc.out (below_new w6 (.cells #[.slice p n cap, .bool false] 28)))
        replace x0 := Lib.hid (blk_below x0.out (below_new w6 (.cells #[.slice p n cap, .bool false] 28)))
        replace r6 := Lib.hid (rch_below r6.out (below_new w6 (.cells #[.slice p n cap, .bool false] 28)))
        replace bq := Lib.hid (below_on bq.out (below_new w6 (.cells #[.slice p n cap, .bool false] 28)))
        have x6 := Lib.hid (blk_new w6 #[.slice p n cap, .bool false] 28)
        have x0_0 := blk_cell x0.out 0 _ rfl
        have x0_1 := blk_cell x0.out 1 _ rfl
        go_wp2_with fail
        go_loopg [7] (4 - n) (fun g vi wr => ∃ (m : Nat) (p6 : Option Addr) (k6 : Nat), n ≤ m ∧ m ≤ 4 ∧ vi = .int .i64 m ∧ g = 4 - m ∧ Blk wr w6.heap.size #[.slice p6 (D m).L.length k6, .bool false] 28 ∧ RCh (fun j => j = w6.heap.size) wr (.agg #[.slice p6 (D m).L.length k6, .bool false]) (D m) ∧ Below w.heap.size w wr)
        case atStart =>
          refine ⟨n, p, cap, Nat.le_refl _, by omega, rfl, rfl, ?_, ?_, bq.out⟩
          · rw [hD0.out, hn.out]; exact x6.out
          · rw [hD0.out, hn.out]; exact r6.out
        case round =>
          clear x6 r6 bq x0 rc x0_0 x0_1
          obtain ⟨m, p6, k6, hm1, hm2, rfl, rfl, x6, r6, bq⟩ := hrel
          have hltW := blk_lt x6
          replace x6 := Lib.hid x6
          replace r6 := Lib.hid r6
          replace bq := Lib.hid bq
          by_cases hlt : m < 4
          · have hlt' : (m : Int) < 4 := by omega
            have hm4 : m ≤ 3 := by omega
            have hput1 := Lib.hid (hput.out m hm1)
            obtain ⟨o, ho⟩ : ∃ o, decide (m < 2) = o := ⟨_, rfl⟩
            have ho2 : decide ((m : Int) < 2) = o := by rw [← ho]; exact decide_eq_decide.2 (by omega)
            have t1 := bne_selfB o
            have t2 := bne_selfB2 o
            rw [ho] at hput1
            replace ho := Lib.hid ho
            have lt := Lib.hid (litJ16 (J := fun j => j = w6.heap.size) wr [x] #[.int .i64 x] wr.heap.size 1 (fun j hj => hj ▸ hltW) rfl rfl rfl (by unfold maxLen; omega))
            have hltW2 : w6.heap.size < (wr.alloc (.cells #[.int .i64 x] 3)).heap.size := by simp; omega
            replace hltW2 := Lib.hid hltW2
            have x6_0 := blk_cell x6.out 0 _ rfl
            have x6_1 := blk_cell x6.out 1 _ rfl
            replace x6 := Lib.hid (blk_below x6.out (below_new wr (.cells #[.int .i64 x] 3)))
            replace r6 := Lib.hid (rch_below r6.out (below_new wr (.cells #[.int .i64 x] 3)))
            replace bq := Lib.hid (below_on bq.out (below_new wr (.cells #[.int .i64 x] 3)))
            go_wp2_with fail
            refine (hput1.out _ _ _ _ hltW2.out r6.out lt.out).mono ?_
            rintro e w21 ⟨v8, rfl, r8, q21⟩
            clear x6_0 x6_1
            replace x6 := Lib.hid (blk_below x6.out q21)
            replace r6 := Lib.hid (rch_below r6.out q21)
            replace bq := Lib.hid (below_on bq.out q21)
            obtain ⟨p8, k8, rfl, _⟩ := rch_form r8
            dsimp only at r8 ⊢
            rw [hDc.out] at r8 ⊢
            replace r8 := Lib.hid r8
            clear q21
            clear r6
            replace x6 := Lib.hid (blk_below x6.out (below_new w21 (.cells #[.slice p8 (D (m + 1)).L.length k8, .bool false] 28)))
            replace r8 := Lib.hid (rch_below r8.out (below_new w21 (.cells #[.slice p8 (D (m + 1)).L.length k8, .bool false] 28)))
            replace bq := Lib.hid (below_on bq.out (below_new w21 (.cells #[.slice p8 (D (m + 1)).L.length k8, .bool false] 28)))
            have x8 := Lib.hid (blk_new w21 #[.slice p8 (D (m + 1)).L.length k8, .bool false] 28)
            have f0 := blk_thaw x6.out 0
            have f1 := blk_thaw x6.out 1
            have x6_0 := blk_cell x6.out 0 _ rfl
            have x6_1 := blk_cell x6.out 1 _ rfl
            have x8_0 := blk_cell x8.out 0 _ rfl
            have x8_1 := blk_cell x8.out 1 _ rfl
            go_wp2_with fail
            clear f0 f1
            clear x6_0 x6_1 x8_0 x8_1
            replace x6 := Lib.hid (blk_setAt16 (blk_setAt16 x6.out 0 (.slice p8 (D (m + 1)).L.length k8)) 1 (.bool false))
            replace r8 := Lib.hid (rch_but r8.out (only_set2 _ (w6.heap.size) (.slice p8 (D (m + 1)).L.length k8) (.bool false) rfl))
            clear x8
            replace bq := Lib.hid (below_set2 bq.out (show w.heap.size ≤ w6.heap.size by omega) (.slice p8 (D (m + 1)).L.length k8) (.bool false))
            go_roundg (4 - (m + 1))
            case measure => omega
            case rel => exact ⟨m + 1, p8, k8, by omega, by omega, by go_num, rfl, x6.out, r8.out, bq.out⟩
          · obtain rfl : m = 4 := by omega
            have x6_0 := blk_cell x6.out 0 _ rfl
            have x6_1 := blk_cell x6.out 1 _ rfl
            go_wp2_with fail
            refine (htake.out _ _ (rch_z16 r6.out)).mono ?_
            rintro e w31 ⟨v10, u10, rfl, r10, s10, q31⟩
            clear x6_0 x6_1
            replace x6 := Lib.hid (blk_below x6.out q31)
            replace r6 := Lib.hid (rch_below r6.out q31)
            replace bq := Lib.hid (below_on bq.out q31)
            obtain ⟨p10, k10, rfl, _⟩ := rch_form r10
            replace r10 := Lib.hid r10
            obtain ⟨a10, d10, rfl⟩ := ri_form s10.1
            clear s10
            clear q31
            replace x6 := Lib.hid (blk_below x6.out (below_new w31 (.cells #[.slice p10 q2.L.length k10, .bool q2.closed] 28)))
            replace r6 := Lib.hid (rch_below r6.out (below_new w31 (.cells #[.slice p10 q2.L.length k10, .bool q2.closed] 28)))
            replace r10 := Lib.hid (rch_below r10.out (below_new w31 (.cells #[.slice p10 q2.L.length k10, .bool q2.closed] 28)))
            replace bq := Lib.hid (below_on bq.out (below_new w31 (.cells #[.slice p10 q2.L.length k10, .bool q2.closed] 28)))
            have x10 := Lib.hid (blk_new w31 #[.slice p10 q2.L.length k10, .bool q2.closed] 28)
            have lu := Lib.hid (litJ16 (J := N0) (w31.alloc (.cells #[.slice p10 q2.L.length k10, .bool q2.closed] 28)) [x] #[.int .i64 x] (w31.heap.size + 1) 1 (fun j hj => hj.elim) (by simp) rfl rfl (by unfold maxLen; omega))
            replace x6 := Lib.hid (blk_below x6.out (below_new (w31.alloc (.cells #[.slice p10 q2.L.length k10, .bool q2.closed] 28)) (.cells #[.int .i64 x] 3)))
            replace r6 := Lib.hid (rch_below r6.out (below_new (w31.alloc (.cells #[.slice p10 q2.L.length k10, .bool q2.closed] 28)) (.cells #[.int .i64 x] 3)))
            replace r10 := Lib.hid (rch_below r10.out (below_new (w31.alloc (.cells #[.slice p10 q2.L.length k10, .bool q2.closed] 28)) (.cells #[.int .i64 x] 3)))
            replace x10 := Lib.hid (blk_below x10.out (below_new (w31.alloc (.cells #[.slice p10 q2.L.length k10, .bool q2.closed] 28)) (.cells #[.int .i64 x] 3)))
            replace bq := Lib.hid (below_on bq.out (below_new (w31.alloc (.cells #[.slice p10 q2.L.length k10, .bool q2.closed] 28)) (.cells #[.int .i64 x] 3)))
            have x10_0 := blk_cell x10.out 0 _ rfl
            have x10_1 := blk_cell x10.out 1 _ rfl
            go_wp2_with fail
            refine (hput3.out _ _ _ r10.out lu.out).mono ?_
            rintro e w32 ⟨v13, rfl, r13, q32⟩
            clear x10_0 x10_1
            replace x6 := Lib.hid (blk_below x6.out q32)
            replace r6 := Lib.hid (rch_below r6.out q32)
            replace r10 := Lib.hid (rch_below r10.out q32)
            replace x10 := Lib.hid (blk_below x10.out q32)
            replace bq := Lib.hid (below_on bq.out q32)
            obtain ⟨p13, k13, rfl, _⟩ := rch_form r13
            clear r13
            clear q32
            replace x6 := Lib.hid (blk_below x6.out (below_new w32 (.cells #[.slice p13 q3.L.length k13, .bool q3.closed] 28)))
            replace r6 := Lib.hid (rch_below r6.out (below_new w32 (.cells #[.slice p13 q3.L.length k13, .bool q3.closed] 28)))
            replace r10 := Lib.hid (rch_below r10.out (below_new w32 (.cells #[.slice p13 q3.L.length k13, .bool q3.closed] 28)))
            replace x10 := Lib.hid (blk_below x10.out (below_new w32 (.cells #[.slice p13 q3.L.length k13, .bool q3.closed] 28)))
            replace bq := Lib.hid (below_on bq.out (below_new w32 (.cells #[.slice p13 q3.L.length k13, .bool q3.closed] 28)))
            have x6_0 := blk_cell x6.out 0 _ rfl
            have x6_1 := blk_cell x6.out 1 _ rfl
            have n2 : (0 : Int) < (l2.length : Int) := by omega
            have n3 : 0 < l2.length := by omega
            replace hD4 := hD4.out
            go_wp2_with fail
            go_ret
            exact ⟨rfl, bq.out⟩
      · clear hn hcl hS hP hT hC hE hN hF
        go_enter Try.func5, Try.ntmps5
        replace rc := Lib.hid (rch_below rc.out (below_new w (.cells #[.slice p n cap, .bool true] 24)))
        replace bq := Lib.hid (below_on bq.out (below_new w (.cells #[.slice p n cap, .bool true] 24)))
        have x0 := Lib.hid (blk_new w #[.slice p n cap, .bool true] 24)
        go_wp2_with fail
        refine (hawake.out _).mono ?_
        rintro e w2 ⟨rfl, q2⟩
        replace rc := Lib.hid (rch_below rc.out q2)
        replace x0 := Lib.hid (blk_below x0.out q2)
        replace bq := Lib.hid (below_on bq.out q2)
        clear q2
        have x0_0 := blk_cell x0.out 0 _ rfl
        have x0_1 := blk_cell x0.out 1 _ rfl
        go_wp2_with fail
        refine (rfew16 N0 _ c w2 rc.out hmax).mono ?_
        rintro e w3 ⟨rfl, q3⟩
        clear x0_0 x0_1
        replace rc := Lib.hid (rch_below rc.out q3)
        replace x0 := Lib.hid (blk_below x0.out q3)
        replace bq := Lib.hid (below_on bq.out q3)
        rw [hfew.out]
        clear q3
        have x0_0 := blk_cell x0.out 0 _ rfl
        have x0_1 := blk_cell x0.out 1 _ rfl
        go_wp2_with fail
        refine (ours16 rc.out).mono ?_
        rintro e w4 ⟨rfl, q4⟩
        clear x0_0 x0_1
        replace rc := Lib.hid (rch_below rc.out q4)
        replace x0 := Lib.hid (blk_below x0.out q4)
        replace bq := Lib.hid (below_on bq.out q4)
        clear q4
        go_wp2_with fail
        refine (hsane.out _ _ rc.out).mono ?_
        rintro e w5 ⟨rfl, q5⟩
        replace rc := Lib.hid (rch_below rc.out q5)
        replace x0 := Lib.hid (blk_below x0.out q5)
        replace bq := Lib.hid (below_on bq.out q5)
        clear q5
        have x0_0 := blk_cell x0.out 0 _ rfl
        have x0_1 := blk_cell x0.out 1 _ rfl
        go_wp2_with fail
        go_ret
        exact ⟨rfl, bq.out⟩
end Go.Proofs.Ytcbfgcmdlfediaa
