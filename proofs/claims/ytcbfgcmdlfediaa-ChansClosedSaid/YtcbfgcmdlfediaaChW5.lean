/- Layer 16: the walk of ChansClosed. -/
import Derived.Test.YtcbfgcmdlfediaaChW4
namespace Go.Proofs.Ytcbfgcmdlfediaa
set_option linter.unusedSimpArgs false
set_option linter.unusedVariables false
open Go.RowKit Go.Lib
open Stg (Ch)
theorem rch_elem {J : Nat → Prop} {w : World} {p : Option Addr} {n cap : Nat} {cl : Bool} {c : Ch} (h : RCh J w (.agg #[.slice p n cap, .bool cl]) c) (i : Nat) (hi : i < c.L.length) : ∃ b off pk kk, p = some ⟨b, off, none⟩ ∧ w.cell? ⟨b, off + i, none⟩ = some (.slice pk (c.L[i]).length kk) ∧ RIo J w (.slice pk (c.L[i]).length kk) c.L[i] := by
  obtain ⟨vl, e, hr⟩ := h
  obtain ⟨p', cap', rfl⟩ := rro_form hr
  have e1 : Value.slice p n cap = .slice p' c.L.length cap' := by
    injection e with e
    have := congrArg (fun a : Array Value => a[0]?) e
    simpa using this
  injection e1 with e1 e2 e3
  subst e1
  obtain ⟨b, off, rfl, _, _, hc⟩ := rro_at hr (by omega)
  obtain ⟨u, hu, hru⟩ := hc i hi
  obtain ⟨pk, kk, rfl⟩ := ri_form hru.1
  exact ⟨b, off, pk, kk, rfl, hu, hru⟩
set_option maxHeartbeats 6400000 in
set_option maxRecDepth 100000 in
theorem chansClosed_walk (hS : SaneC16) (hP : PutC16) (hT : TakeC16) (hC : CloseC16) (hE : SpentC16) (hN : CountC16) (v : Value) (c : Ch) (vb : Value) (b : List Int) (w : World) (hv : RCh N0 w v c ∧ (∀ l ∈ c.L, WfI l) ∧ c.L.length ≤ maxLen) (hvb : RI w vb b ∧ WfI b) :
    Calls Try.prog 6 #[v, vb] w fun e w' => e = .returned (.bool true) ∧ Below w.heap.size w w' := by
  obtain ⟨rc, _, hmax⟩ := hv
  replace rc := rch_up rc
  have rb := rio_up (rio_of hvb.1)
  have hawake := Lib.hid (awake16 hS hP hT hN)
  obtain ⟨p, cap, rfl, _⟩ := rch_form rc
  obtain ⟨pb, cb, rfl⟩ := ri_form rb.1
  have bq := Lib.hid (Below.refl w.heap.size w)
  obtain ⟨F, hfew⟩ : ∃ F, fewC c = F := ⟨_, rfl⟩
  have hF := fun h : F = true => fewC_few (hfew.trans h)
  obtain ⟨n, hn⟩ : ∃ n, c.L.length = n := ⟨_, rfl⟩
  obtain ⟨cl, hcl⟩ : ∃ cl, c.closed = cl := ⟨_, rfl⟩
  rw [hn, hcl] at rc ⊢
  replace rc := Lib.hid rc
  replace rb := Lib.hid rb
  replace hfew := Lib.hid hfew
  clear hvb
  by_cases hb : b.length ≤ 20
  · have hb1 : ¬ 20 < b.length := by omega
    have hb2 : ¬ (20 : Int) < (b.length : Int) := by omega
    rcases F with _ | _
    · clear hn hcl hS hP hT hC hE hN hF
      go_enter Try.func6, Try.ntmps6
      replace rc := Lib.hid (rch_below rc.out (below_new w (.cells #[.slice p n cap, .bool cl] 24)))
      replace rb := Lib.hid (rio_below rb.out (below_new w (.cells #[.slice p n cap, .bool cl] 24)))
      replace bq := Lib.hid (below_on bq.out (below_new w (.cells #[.slice p n cap, .bool cl] 24)))
      have x0 := Lib.hid (blk_new w #[.slice p n cap, .bool cl] 24)
      go_wp2_with fail
      refine (hawake.out _).mono ?_
      rintro e w2 ⟨rfl, q2⟩
      replace rc := Lib.hid (rch_below rc.out q2)
      replace rb := Lib.hid (rio_below rb.out q2)
      replace x0 := Lib.hid (blk_below x0.out q2)
      replace bq := Lib.hid (below_on bq.out q2)
      clear q2
      have x0_0 := blk_cell x0.out 0 _ rfl
      have x0_1 := blk_cell x0.out 1 _ rfl
      go_wp2_with fail
      refine (rfew16 (Up N0 w) _ c w2 rc.out hmax).mono ?_
      rintro e w3 ⟨rfl, q3⟩
      clear x0_0 x0_1
      replace rc := Lib.hid (rch_below rc.out q3)
      replace rb := Lib.hid (rio_below rb.out q3)
      replace x0 := Lib.hid (blk_below x0.out q3)
      replace bq := Lib.hid (below_on bq.out q3)
      rw [hfew.out]
      clear q3
      go_wp2_with fail
      go_ret
      exact ⟨rfl, bq.out⟩
    · have hf := (hF rfl).1
      have hsane := fun W V (h : RCh (Up N0 w) W V c) => hS (Up N0 w) V c W hf h
      obtain ⟨S, hS1⟩ : ∃ q, Stg.saneC c = q := ⟨_, rfl⟩
      rw [hS1] at hsane
      replace hsane := Lib.hid hsane
      rcases S with _ | _
      · clear hn hcl hS hP hT hC hE hN hF
        go_enter Try.func6, Try.ntmps6
        replace rc := Lib.hid (rch_below rc.out (below_new w (.cells #[.slice p n cap, .bool cl] 24)))
        replace rb := Lib.hid (rio_below rb.out (below_new w (.cells #[.slice p n cap, .bool cl] 24)))
        replace bq := Lib.hid (below_on bq.out (below_new w (.cells #[.slice p n cap, .bool cl] 24)))
        have x0 := Lib.hid (blk_new w #[.slice p n cap, .bool cl] 24)
        go_wp2_with fail
        refine (hawake.out _).mono ?_
        rintro e w2 ⟨rfl, q2⟩
        replace rc := Lib.hid (rch_below rc.out q2)
        replace rb := Lib.hid (rio_below rb.out q2)
        replace x0 := Lib.hid (blk_below x0.out q2)
        replace bq := Lib.hid (below_on bq.out q2)
        clear q2
        have x0_0 := blk_cell x0.out 0 _ rfl
        have x0_1 := blk_cell x0.out 1 _ rfl
        go_wp2_with fail
        refine (rfew16 (Up N0 w) _ c w2 rc.out hmax).mono ?_
        rintro e w3 ⟨rfl, q3⟩
        clear x0_0 x0_1
        replace rc := Lib.hid (rch_below rc.out q3)
        replace rb := Lib.hid (rio_below rb.out q3)
        replace x0 := Lib.hid (blk_below x0.out q3)
        replace bq := Lib.hid (below_on bq.out q3)
        rw [hfew.out]
        clear q3
        have x0_0 := blk_cell x0.out 0 _ rfl
        have x0_1 := blk_cell x0.out 1 _ rfl
        go_wp2_with fail
        refine (ours16 rc.out).mono ?_
        rintro e w4 ⟨rfl, q4⟩
        clear x0_0 x0_1
        replace rc := Lib.hid (rch_below rc.out q4)
        replace rb := Lib.hid (rio_below rb.out q4)
        replace x0 := Lib.hid (blk_below x0.out q4)
        replace bq := Lib.hid (below_on bq.out q4)
        clear q4
        go_wp2_with fail
        refine (hsane.out _ _ rc.out).mono ?_
        rintro e w5 ⟨rfl, q5⟩
        replace rc := Lib.hid (rch_below rc.out q5)
        replace rb := Lib.hid (rio_below rb.out q5)
        replace x0 := Lib.hid (blk_below x0.out q5)
        replace bq := Lib.hid (below_on bq.out q5)
        clear q5
        go_wp2_with fail
        go_ret
        exact ⟨rfl, bq.out⟩
      · have hs := (Stg.saneC_iff _).1 hS1
        have hn2 : n ≤ 2 := by rw [← hn]; exact hs.1
        obtain ⟨D, hD⟩ : ∃ D : Nat → Ch, ∀ i, D i = ⟨c.L.drop i, true⟩ := ⟨_, fun _ => rfl⟩
        have hDc : ∀ i, (D i).closed = true := fun i => by rw [hD]
        have hDs : ∀ i, Stg.saneC (D i) = true := fun i => by
          rw [hD]
          exact (Stg.saneC_iff _).2 ⟨by simp; omega, fun x hx => hs.2 x (List.mem_of_mem_drop hx)⟩
        have hDl : ∀ i, (D i).L.length = n - i := fun i => by rw [hD]; simp [hn]
        have hcls : Stg.closeC c = D 0 := by rw [hD]; unfold Stg.closeC; rw [Stg.asC_same hS1]; simp
        have hput0 : Stg.putC (D 0) b = (D 0, false) := by unfold Stg.putC; rw [Stg.asC_same (hDs 0), if_neg (by rw [hDc]; simp)]
        have htk : ∀ i (h : i < c.L.length), Stg.takeC (D i) = (D (i + 1), c.L[i], true) := fun i h => by
          unfold Stg.takeC
          rw [Stg.asC_same (hDs i), hD, hD, List.drop_eq_getElem_cons h]
        have hsp : ∀ i, i < n → Stg.spentC (D i) = false := fun i h => by
          unfold Stg.spentC
          rw [Stg.asC_same (hDs i)]
          have : (D i).L ≠ [] := fun e => by have := hDl i; rw [e] at this; simp at this; omega
          simp [this]
        have hDn : (D n).L = [] := List.eq_nil_of_length_eq_zero (by rw [hDl]; omega)
        have hspn : Stg.spentC (D n) = true := by unfold Stg.spentC; rw [Stg.asC_same (hDs n), hDn, hDc]; rfl
        have htkn : Stg.takeC (D n) = (D n, [], false) := by
          unfold Stg.takeC
          rw [Stg.asC_same (hDs n)]
          split
          · rfl
          · rename_i e; rw [hDn] at e; cases e
        have hclsn : Stg.closeC (D n) = D n := by unfold Stg.closeC; rw [Stg.asC_same (hDs n), hD]
        have hclose := fun W V (h : RCh N0 W V c) => hC N0 V c W (old0 W) hf h
        rw [hcls] at hclose
        have hput := fun W V U (h : RCh N0 W V (D 0)) (h2 : RIo N0 W U b) => put_of16 hP hput0 (old0 W) (few_sane (hDs 0)) (by omega) h h2
        have htake := fun i (hi : i < c.L.length) (K : Nat) W V (ho : Old (fun j => j = K) W) (h : RCh (fun j => j = K) W V (D i)) => take_of16 hT (htk i hi) ho (few_sane (hDs i)) h
        have hspn1 := fun i (hi : i < n) W V (h : RCh N0 W V (D i)) => hE N0 V _ W (few_sane (hDs i)) h
        have hspnN := fun W V (h : RCh N0 W V (D n)) => hE N0 V _ W (few_sane (hDs n)) h
        have htakeN := fun W V (h : RCh N0 W V (D n)) => take_of16 hT htkn (old0 W) (few_sane (hDs n)) h
        have hclsN := fun W V (h : RCh N0 W V (D n)) => hC N0 V _ W (old0 W) (few_sane (hDs n)) h
        have hspn0 := fun W V (h : RCh N0 W V ⟨[], false⟩) => hE N0 V _ W ⟨by simp, fun x h => by cases h⟩ h
        rw [hspn] at hspnN
        rw [hclsn] at hclsN
        rw [show Stg.spentC ⟨[], false⟩ = false from rfl] at hspn0
        have hspn1' : ∀ i (hi : i < n) W V (h : RCh N0 W V (D i)), Calls Try.prog 22 #[V] W fun e w' => e = .returned (.bool false) ∧ Below W.heap.size W w' := fun i hi W V h => by
          have := hspn1 i hi W V h
          rw [hsp i hi] at this
          exact this
        unfold ToldCB at hput
        unfold ToldCLB at htake htakeN
        unfold ToldC at hclose hclsN
        have hll0 : ∀ i (h : i < c.L.length), (c.L[i]).length ≤ 100000 := fun i h => by have := (hs.2 _ (List.getElem_mem h)).2; omega
        replace hput := Lib.hid hput
        replace htake := Lib.hid htake
        replace htakeN := Lib.hid htakeN
        replace hclose := Lib.hid hclose
        replace hclsN := Lib.hid hclsN
        replace hspn0 := Lib.hid hspn0
        replace hspnN := Lib.hid hspnN
        replace hspn1' := Lib.hid hspn1'
        replace hDc := Lib.hid hDc
        replace hll0 := Lib.hid hll0
        replace hDn := Lib.hid hDn
        have hD0n := Lib.hid (show (D 0).L.length = n by rw [hDl]; omega)
        replace hn := Lib.hid hn
        clear hspn1 hspn htkn hclsn hput0 htk hsp hcls hDl hDs hD hs hS1 hcl hS hP hT hC hE hN hF hf
        go_enter Try.func6, Try.ntmps6
        replace rc := Lib.hid (rch_below rc.out (below_new w (.cells #[.slice p n cap, .bool cl] 24)))
        replace rb := Lib.hid (rio_below rb.out (below_new w (.cells #[.slice p n cap, .bool cl] 24)))
        replace bq := Lib.hid (below_on bq.out (below_new w (.cells #[.slice p n cap, .bool cl] 24)))
        have x0 := Lib.hid (blk_new w #[.slice p n cap, .bool cl] 24)
        go_wp2_with fail
        refine (hawake.out _).mono ?_
        rintro e w2 ⟨rfl, q2⟩
        replace rc := Lib.hid (rch_below rc.out q2)
        replace rb := Lib.hid (rio_below rb.out q2)
        replace x0 := Lib.hid (blk_below x0.out q2)
        replace bq := Lib.hid (below_on bq.out q2)
        clear q2
        have x0_0 := blk_cell x0.out 0 _ rfl
        have x0_1 := blk_cell x0.out 1 _ rfl
        go_wp2_with fail
        refine (rfew16 (Up N0 w) _ c w2 rc.out hmax).mono ?_
        rintro e w3 ⟨rfl, q3⟩
        clear x0_0 x0_1
        replace rc := Lib.hid (rch_below rc.out q3)
        replace rb := Lib.hid (rio_below rb.out q3)
        replace x0 := Lib.hid (blk_below x0.out q3)
        replace bq := Lib.hid (below_on bq.out q3)
        rw [hfew.out]
        clear q3
        have x0_0 := blk_cell x0.out 0 _ rfl
        have x0_1 := blk_cell x0.out 1 _ rfl
        go_wp2_with fail
        refine (ours16 rc.out).mono ?_
        rintro e w4 ⟨rfl, q4⟩
        clear x0_0 x0_1
        replace rc := Lib.hid (rch_below rc.out q4)
        replace rb := Lib.hid (rio_below rb.out q4)
        replace x0 := Lib.hid (blk_below x0.out q4)
        replace bq := Lib.hid (below_on bq.out q4)
        clear q4
        go_wp2_with fail
        refine (hsane.out _ _ rc.out).mono ?_
        rintro e w5 ⟨rfl, q5⟩
        replace rc := Lib.hid (rch_below rc.out q5)
        replace rb := Lib.hid (rio_below rb.out q5)
        replace x0 := Lib.hid (blk_below x0.out q5)
        replace bq := Lib.hid (below_on bq.out q5)
        clear q5
        have x0_0 := blk_cell x0.out 0 _ rfl
        have x0_1 := blk_cell x0.out 1 _ rfl
        go_wp2_with fail
        refine (ours16 rc.out).mono ?_
        rintro e w6 ⟨rfl, q6⟩
        clear x0_0 x0_1
        replace rc := Lib.hid (rch_below rc.out q6)
        replace rb := Lib.hid (rio_below rb.out q6)
        replace x0 := Lib.hid (blk_below x0.out q6)
        replace bq := Lib.hid (below_on bq.out q6)
        clear q6
        go_wp2_with fail
        refine (hclose.out _ _ (rch_z16 rc.out)).mono ?_
        rintro e w7 ⟨v6, rfl, r6, q7⟩
        replace rc := Lib.hid (rch_below rc.out q7)
        replace rb := Lib.hid (rio_below rb.out q7)
        replace x0 := Lib.hid (blk_below x0.out q7)
        replace bq := Lib.hid (below_on bq.out q7)
        obtain ⟨p6, k6, rfl, _⟩ := rch_form r6
        rw [hDc.out] at r6 ⊢
        replace r6 := Lib.hid r6
        clear q7
        replace rc := Lib.hid (rch_below rc.out (below_new w7 (.cells #[.slice p6 (D 0).L.length k6, .bool true] 28)))
        replace rb := Lib.hid (rio_below rb.out (below_new w7 (.cells #[.slice p6 (D 0).L.length k6, .bool true] 28)))
        replace x0 := Lib.hid (blk_below x0.out (below_new w7 (.cells #[.slice p6 (D 0).L.length k6, .bool true] 28)))
        replace r6 := Lib.hid (rch_below r6.out (below_new w7 (.cells #[.slice p6 (D 0).L.length k6, .bool true] 28)))
        replace bq := Lib.hid (below_on bq.out (below_new w7 (.cells #[.slice p6 (D 0).L.length k6, .bool true] 28)))
        have x6 := Lib.hid (blk_new w7 #[.slice p6 (D 0).L.length k6, .bool true] 28)
        have x6_0 := blk_cell x6.out 0 _ rfl
        have x6_1 := blk_cell x6.out 1 _ rfl
        go_wp2_with fail
        refine (hput.out _ _ _ r6.out (rio_dn16 rb.out)).mono ?_
        rintro e w8 ⟨v7, rfl, r7, q8⟩
        clear x6_0 x6_1
        replace rc := Lib.hid (rch_below rc.out q8)
        replace rb := Lib.hid (rio_below rb.out q8)
        replace x0 := Lib.hid (blk_below x0.out q8)
        replace r6 := Lib.hid (rch_below r6.out q8)
        replace x6 := Lib.hid (blk_below x6.out q8)
        replace bq := Lib.hid (below_on bq.out q8)
        obtain ⟨p7, k7, rfl, _⟩ := rch_form r7
        dsimp only at r7 ⊢
        rw [hDc.out] at r7 ⊢
        replace r7 := Lib.hid (rch_mono (K := fun j => j = w8.heap.size) (rch_up r7) (fun j _ h => .inr (Nat.le_of_eq h.symm)))
        clear q8
        clear r6
        have l8 := blk_lt x0.out
        replace rc := Lib.hid (rch_below rc.out (below_new w8 (.cells #[.slice p7 (D 0).L.length k7, .bool true] 28)))
        replace rb := Lib.hid (rio_below rb.out (below_new w8 (.cells #[.slice p7 (D 0).L.length k7, .bool true] 28)))
        replace x0 := Lib.hid (blk_below x0.out (below_new w8 (.cells #[.slice p7 (D 0).L.length k7, .bool true] 28)))
        replace x6 := Lib.hid (blk_below x6.out (below_new w8 (.cells #[.slice p7 (D 0).L.length k7, .bool true] 28)))
        replace r7 := Lib.hid (rch_below r7.out (below_new w8 (.cells #[.slice p7 (D 0).L.length k7, .bool true] 28)))
        replace bq := Lib.hid (below_on bq.out (below_new w8 (.cells #[.slice p7 (D 0).L.length k7, .bool true] 28)))
        have x7 := Lib.hid (blk_new w8 #[.slice p7 (D 0).L.length k7, .bool true] 28)
        have x6_0 := blk_cell x6.out 0 _ rfl
        have x6_1 := blk_cell x6.out 1 _ rfl
        have x7_0 := blk_cell x7.out 0 _ rfl
        have x7_1 := blk_cell x7.out 1 _ rfl
        have x0_0 := blk_cell x0.out 0 _ rfl
        go_wp2_with fail
        go_loopg [9] n (fun g vi wr => ∃ (i : Nat) (p7 : Option Addr) (k7 : Nat), i ≤ n ∧ vi = .int .i64 i ∧ g = n - i ∧ Blk wr w8.heap.size #[.slice p7 (D i).L.length k7, .bool true] 28 ∧ RCh (fun j => j = w8.heap.size) wr (.agg #[.slice p7 (D i).L.length k7, .bool true]) (D i) ∧ Blk wr w.heap.size #[.slice p n cap, .bool cl] 24 ∧ RCh (Up N0 w) wr (.agg #[.slice p n cap, .bool cl]) c ∧ Below w.heap.size w wr)
        case atStart => exact ⟨0, p7, k7, Nat.zero_le _, rfl, rfl, x7.out, r7.out, x0.out, rc.out, bq.out⟩
        case round =>
          clear x7 r7 bq x0 rc x0_0
          obtain ⟨i, p7, k7, hi, rfl, rfl, x7, r7, x0, rc, bq⟩ := hrel
          have x0_0 := blk_cell x0 0 _ rfl
          replace x7 := Lib.hid x7
          replace r7 := Lib.hid r7
          replace x0 := Lib.hid x0
          replace rc := Lib.hid rc
          replace bq := Lib.hid bq
          by_cases hlt : i < n
          · have hlt' : (i : Int) < (n : Int) := by omega
            have hilt : i < c.L.length := by rw [hn.out]; exact hlt
            obtain ⟨eb, eo, ep, ek, rfl, y0, s0⟩ := rch_elem rc.out i hilt
            have htake1 := Lib.hid (htake.out i hilt)
            have hspn1 := Lib.hid (hspn1'.out i hlt)
            have hll := hll0.out i hilt
            obtain ⟨l, hl⟩ : ∃ l, c.L[i] = l := ⟨_, rfl⟩
            rw [hl] at y0 s0 hll htake1
            replace hll := Lib.hid hll
            replace y0 := Lib.hid y0
            replace s0 := Lib.hid s0
            replace hilt := Lib.hid hilt
            clear hl
            have x7_0 := blk_cell x7.out 0 _ rfl
            have x7_1 := blk_cell x7.out 1 _ rfl
            go_wp2_with fail
            refine (hspn1.out _ _ (rch_z16 r7.out)).mono ?_
            rintro e w21 ⟨rfl, q21⟩
            clear x7_0 x7_1
            replace x0 := Lib.hid (blk_below x0.out q21)
            replace rc := Lib.hid (rch_below rc.out q21)
            replace x7 := Lib.hid (blk_below x7.out q21)
            replace r7 := Lib.hid (rch_below r7.out q21)
            replace y0 := Lib.hid (cell_below16 y0.out q21)
            replace s0 := Lib.hid (rio_below s0.out q21)
            replace bq := Lib.hid (below_on bq.out q21)
            clear q21
            have x7_0 := blk_cell x7.out 0 _ rfl
            have x7_1 := blk_cell x7.out 1 _ rfl
            go_wp2_with fail
            refine (htake1.out _ _ _ (by intro j hj; rw [hj]; exact blk_lt x7.out) r7.out).mono ?_
            rintro e w22 ⟨v10, u10, rfl, r10, s10, q22⟩
            clear x7_0 x7_1
            replace x0 := Lib.hid (blk_below x0.out q22)
            replace rc := Lib.hid (rch_below rc.out q22)
            replace x7 := Lib.hid (blk_below x7.out q22)
            replace r7 := Lib.hid (rch_below r7.out q22)
            replace y0 := Lib.hid (cell_below16 y0.out q22)
            replace s0 := Lib.hid (rio_below s0.out q22)
            replace bq := Lib.hid (below_on bq.out q22)
            obtain ⟨p10, k10, rfl, _⟩ := rch_form r10
            dsimp only at r10 ⊢
            rw [hDc.out] at r10 ⊢
            obtain ⟨a10, d10, rfl⟩ := ri_form s10.1
            replace r10 := Lib.hid r10
            replace s10 := Lib.hid s10
            clear q22
            clear r7
            replace x0 := Lib.hid (blk_below x0.out (below_new w22 (.cells #[.slice p10 (D (i + 1)).L.length k10, .bool true] 28)))
            replace rc := Lib.hid (rch_below rc.out (below_new w22 (.cells #[.slice p10 (D (i + 1)).L.length k10, .bool true] 28)))
            replace x7 := Lib.hid (blk_below x7.out (below_new w22 (.cells #[.slice p10 (D (i + 1)).L.length k10, .bool true] 28)))
            replace y0 := Lib.hid (cell_below16 y0.out (below_new w22 (.cells #[.slice p10 (D (i + 1)).L.length k10, .bool true] 28)))
            replace s0 := Lib.hid (rio_below s0.out (below_new w22 (.cells #[.slice p10 (D (i + 1)).L.length k10, .bool true] 28)))
            replace r10 := Lib.hid (rch_below r10.out (below_new w22 (.cells #[.slice p10 (D (i + 1)).L.length k10, .bool true] 28)))
            replace s10 := Lib.hid (rio_below s10.out (below_new w22 (.cells #[.slice p10 (D (i + 1)).L.length k10, .bool true] 28)))
            replace bq := Lib.hid (below_on bq.out (below_new w22 (.cells #[.slice p10 (D (i + 1)).L.length k10, .bool true] 28)))
            have x10 := Lib.hid (blk_new w22 #[.slice p10 (D (i + 1)).L.length k10, .bool true] 28)
            have x0_0 := blk_cell x0.out 0 _ rfl
            have x0_1 := blk_cell x0.out 1 _ rfl
            have y1 := y0.out
            go_wp2_with fail
            refine (same_self _ _ l _ hll.out s10.out.1 s0.out.1).mono ?_
            rintro e w23 ⟨rfl, q23⟩
            clear x0_0 x0_1
            replace x0 := Lib.hid (blk_below x0.out q23)
            replace rc := Lib.hid (rch_below rc.out q23)
            replace x7 := Lib.hid (blk_below x7.out q23)
            replace y0 := Lib.hid (cell_below16 y0.out q23)
            replace s0 := Lib.hid (rio_below s0.out q23)
            replace r10 := Lib.hid (rch_below r10.out q23)
            replace s10 := Lib.hid (rio_below s10.out q23)
            replace x10 := Lib.hid (blk_below x10.out q23)
            replace bq := Lib.hid (below_on bq.out q23)
            clear y1
            clear q23
            clear s10 s0 y0
            have f0 := blk_thaw x7.out 0
            have f1 := blk_thaw x7.out 1
            have x7_0 := blk_cell x7.out 0 _ rfl
            have x7_1 := blk_cell x7.out 1 _ rfl
            have x10_0 := blk_cell x10.out 0 _ rfl
            have x10_1 := blk_cell x10.out 1 _ rfl
            go_wp2_with fail
            clear f0 f1
            clear x7_0 x7_1 x10_0 x10_1
            have hlk := blk_lt x7.out
            replace x0 := Lib.hid (blk_off2 (j := w8.heap.size) x0.out (by omega) (.slice p10 (D (i + 1)).L.length k10) (.bool true))
            replace rc := Lib.hid (rch_but rc.out (only_set2 _ (w8.heap.size) (.slice p10 (D (i + 1)).L.length k10) (.bool true) (.inr (by omega))))
            replace x7 := Lib.hid (blk_setAt16 (blk_setAt16 x7.out 0 (.slice p10 (D (i + 1)).L.length k10)) 1 (.bool true))
            replace r10 := Lib.hid (rch_but r10.out (only_set2 _ (w8.heap.size) (.slice p10 (D (i + 1)).L.length k10) (.bool true) rfl))
            clear x10
            replace bq := Lib.hid (below_set2 bq.out (show w.heap.size ≤ w8.heap.size by omega) (.slice p10 (D (i + 1)).L.length k10) (.bool true))
            go_roundg (n - (i + 1))
            case measure => omega
            case rel => exact ⟨i + 1, p10, k10, by omega, by go_num, rfl, x7.out, r10.out, x0.out, rc.out, bq.out⟩
          · obtain rfl : i = n := by omega
            have hlt' : decide ((i : Int) < (i : Int)) = false := by simp
            have x7_0 := blk_cell x7.out 0 _ rfl
            have x7_1 := blk_cell x7.out 1 _ rfl
            go_wp2_with fail
            refine (htakeN.out _ _ (rch_z16 r7.out)).mono ?_
            rintro e w31 ⟨v13, u13, rfl, r13, s13, q31⟩
            clear x7_0 x7_1
            replace x7 := Lib.hid (blk_below x7.out q31)
            replace r7 := Lib.hid (rch_below r7.out q31)
            replace bq := Lib.hid (below_on bq.out q31)
            obtain ⟨p13, k13, rfl, _⟩ := rch_form r13
            obtain ⟨a13, d13, rfl⟩ := ri_form s13.1
            clear r13 s13
            clear q31
            replace x7 := Lib.hid (blk_below x7.out (below_new w31 (.cells #[.slice p13 (D i).L.length k13, .bool (D i).closed] 28)))
            replace r7 := Lib.hid (rch_below r7.out (below_new w31 (.cells #[.slice p13 (D i).L.length k13, .bool (D i).closed] 28)))
            replace bq := Lib.hid (below_on bq.out (below_new w31 (.cells #[.slice p13 (D i).L.length k13, .bool (D i).closed] 28)))
            have x7_0 := blk_cell x7.out 0 _ rfl
            have x7_1 := blk_cell x7.out 1 _ rfl
            go_wp2_with fail
            refine (hspnN.out _ _ (rch_z16 r7.out)).mono ?_
            rintro e w32 ⟨rfl, q32⟩
            clear x7_0 x7_1
            replace x7 := Lib.hid (blk_below x7.out q32)
            replace r7 := Lib.hid (rch_below r7.out q32)
            replace bq := Lib.hid (below_on bq.out q32)
            clear q32
            have x7_0 := blk_cell x7.out 0 _ rfl
            have x7_1 := blk_cell x7.out 1 _ rfl
            go_wp2_with fail
            refine (hclsN.out _ _ (rch_z16 r7.out)).mono ?_
            rintro e w33 ⟨v14, rfl, r14, q33⟩
            clear x7_0 x7_1
            replace x7 := Lib.hid (blk_below x7.out q33)
            replace r7 := Lib.hid (rch_below r7.out q33)
            replace bq := Lib.hid (below_on bq.out q33)
            obtain ⟨p14, k14, rfl, _⟩ := rch_form r14
            replace r14 := Lib.hid r14
            clear q33
            go_wp2_with fail
            refine (hspnN.out _ _ r14.out).mono ?_
            rintro e w34 ⟨rfl, q34⟩
            replace x7 := Lib.hid (blk_below x7.out q34)
            replace r7 := Lib.hid (rch_below r7.out q34)
            replace r14 := Lib.hid (rch_below r14.out q34)
            replace bq := Lib.hid (below_on bq.out q34)
            clear q34
            go_wp2_with fail
            refine (hspn0.out _ _ (rch_zero N0 _)).mono ?_
            rintro e w35 ⟨rfl, q35⟩
            replace x7 := Lib.hid (blk_below x7.out q35)
            replace r7 := Lib.hid (rch_below r7.out q35)
            replace r14 := Lib.hid (rch_below r14.out q35)
            replace bq := Lib.hid (below_on bq.out q35)
            clear q35
            go_wp2_with fail
            go_ret
            exact ⟨rfl, bq.out⟩
  · have hb1 : 20 < b.length := by omega
    have hb2 : (20 : Int) < (b.length : Int) := by omega
    clear hn hcl hS hP hT hC hE hN hF
    rcases F with _ | _
    all_goals
      go_enter Try.func6, Try.ntmps6
      replace rc := Lib.hid (rch_below rc.out (below_new w (.cells #[.slice p n cap, .bool cl] 24)))
      replace rb := Lib.hid (rio_below rb.out (below_new w (.cells #[.slice p n cap, .bool cl] 24)))
      replace bq := Lib.hid (below_on bq.out (below_new w (.cells #[.slice p n cap, .bool cl] 24)))
      have x0 := Lib.hid (blk_new w #[.slice p n cap, .bool cl] 24)
      go_wp2_with fail
      refine (hawake.out _).mono ?_
      rintro e w2 ⟨rfl, q2⟩
      replace rc := Lib.hid (rch_below rc.out q2)
      replace rb := Lib.hid (rio_below rb.out q2)
      replace x0 := Lib.hid (blk_below x0.out q2)
      replace bq := Lib.hid (below_on bq.out q2)
      clear q2
      have x0_0 := blk_cell x0.out 0 _ rfl
      have x0_1 := blk_cell x0.out 1 _ rfl
      go_wp2_with fail
      refine (rfew16 (Up N0 w) _ c w2 rc.out hmax).mono ?_
      rintro e w3 ⟨rfl, q3⟩
      clear x0_0 x0_1
      replace rc := Lib.hid (rch_below rc.out q3)
      replace rb := Lib.hid (rio_below rb.out q3)
      replace x0 := Lib.hid (blk_below x0.out q3)
      replace bq := Lib.hid (below_on bq.out q3)
      rw [hfew.out]
      clear q3
      go_wp2_with fail
      go_ret
      exact ⟨rfl, bq.out⟩
end Go.Proofs.Ytcbfgcmdlfediaa
