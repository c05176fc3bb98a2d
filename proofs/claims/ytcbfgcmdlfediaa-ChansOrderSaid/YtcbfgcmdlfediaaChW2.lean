/- Layer 16: the walk of ChansKeeps. -/
import Derived.Test.YtcbfgcmdlfediaaChW0
import Derived.Deep.RegionHeld3
import Derived.WalkKit
import Derived.OrdersHeld
namespace Go.Proofs.Ytcbfgcmdlfediaa
set_option linter.unusedSimpArgs false
set_option linter.unusedVariables false
open Go.RowKit Go.Lib
open Stg (Ch)
theorem put_not {c : Ch} {b : List Int} {q : Ch} (h : Stg.putC c b = (q, false)) : q = Stg.asC c := by
  unfold Stg.putC at h
  split at h
  · simp at h
  · have := congrArg Prod.fst h
    exact this.symm
theorem put_yes {c : Ch} {b : List Int} {q : Ch} (h : Stg.putC c b = (q, true)) : Stg.countC q = Stg.countC (Stg.asC c) + b.length := by
  have hs : Stg.saneC q = true := by have := Stg.put_sane c b; rw [h] at this; exact this
  unfold Stg.putC at h
  split at h
  · have e : q = ⟨(Stg.asC c).L ++ [b], false⟩ := (congrArg Prod.fst h).symm
    unfold Stg.countC
    rw [Stg.asC_same hs, Stg.asC_asC, e]
    simp
  · simp at h
theorem take_not {c : Ch} {q : Ch} {l : List Int} (h : Stg.takeC c = (q, l, false)) : q = Stg.asC c ∧ l = [] ∧ (Stg.asC c).L = [] := by
  unfold Stg.takeC at h
  split at h
  · rename_i e
    injection h with h1 h2
    injection h2 with h2 h3
    exact ⟨h1.symm, h2.symm, e⟩
  · simp at h
theorem take_yes {c : Ch} {q : Ch} {l : List Int} (h : Stg.takeC c = (q, l, true)) : (Stg.asC c).L = l :: q.L ∧ q.closed = (Stg.asC c).closed := by
  unfold Stg.takeC at h
  split at h
  · simp at h
  · rename_i b t e
    injection h with h1 h2
    injection h2 with h2 h3
    subst h1 h2
    exact ⟨e, rfl⟩
theorem rch_dn {w w0 : World} {v : Value} {c : Ch} (h : RCh (Up N0 w0) w v c) : RCh N0 w v c := rch_mono h fun _ _ h => .inl h
theorem rio_dn {w w0 : World} {v : Value} {l : List Int} (h : RIo (Up N0 w0) w v l) : RIo N0 w v l := rio_mono h fun _ _ h => .inl h
set_option maxHeartbeats 6400000 in
set_option maxRecDepth 100000 in
theorem chansKeeps_walk (hS : SaneC16) (hP : PutC16) (hT : TakeC16) (hC : CloseC16) (hE : SpentC16) (hN : CountC16) (v : Value) (c : Ch) (vb : Value) (b : List Int) (w : World) (hv : RCh N0 w v c ∧ (∀ l ∈ c.L, WfI l) ∧ c.L.length ≤ maxLen) (hvb : RI w vb b ∧ WfI b) :
    Calls Try.prog 7 #[v, vb] w fun e w' => e = .returned (.bool true) ∧ Below w.heap.size w w' := by
  obtain ⟨rc, _, hmax⟩ := hv
  replace rc := rch_up rc
  have rb := rio_up (rio_of hvb.1)
  have hawake := Lib.hid (awake16 hS hP hT hN)
  obtain ⟨p, cap, rfl, _⟩ := rch_form rc
  obtain ⟨pb, cb, rfl⟩ := ri_form rb.1
  have bq := Lib.hid (Below.refl w.heap.size w)
  obtain ⟨F, hfew⟩ : ∃ F, fewC c = F := ⟨_, rfl⟩
  have hF := fun h : F = true => fewC_few (hfew.trans h)
  obtain ⟨n, hn⟩ : ∃ n, c.L.length = n := ⟨_, rfl⟩
  obtain ⟨cl, hcl⟩ : ∃ cl, c.closed = cl := ⟨_, rfl⟩
  rw [hn, hcl] at rc ⊢
  replace rc := Lib.hid rc
  replace rb := Lib.hid rb
  replace hfew := Lib.hid hfew
  clear hvb
  by_cases hb : b.length ≤ 20
  · have hb1 : ¬ 20 < b.length := by omega
    have hb2 : ¬ (20 : Int) < (b.length : Int) := by omega
    rcases F with _ | _
    · clear hn hcl hS hP hT hC hE hN hF
      go_enter Try.func7, Try.ntmps7
      replace rc := Lib.hid (rch_below rc.out (below_new w (.cells #[.slice p n cap, .bool cl] 24)))
      replace rb := Lib.hid (rio_below rb.out (below_new w (.cells #[.slice p n cap, .bool cl] 24)))
      replace bq := Lib.hid (below_on bq.out (below_new w (.cells #[.slice p n cap, .bool cl] 24)))
      have x0 := Lib.hid (blk_new w #[.slice p n cap, .bool cl] 24)
      go_wp2_with fail
      refine (hawake.out _).mono ?_
      rintro e w2 ⟨rfl, q2⟩
      replace rc := Lib.hid (rch_below rc.out q2)
      replace rb := Lib.hid (rio_below rb.out q2)
      replace x0 := Lib.hid (blk_below x0.out q2)
      replace bq := Lib.hid (below_on bq.out q2)
      clear q2
      have x0_0 := blk_cell x0.out 0 _ rfl
      have x0_1 := blk_cell x0.out 1 _ rfl
      go_wp2_with fail
      refine (rfew16 (Up N0 w) _ c w2 rc.out hmax).mono ?_
      rintro e w3 ⟨rfl, q3⟩
      clear x0_0 x0_1
      replace rc := Lib.hid (rch_below rc.out q3)
      replace rb := Lib.hid (rio_below rb.out q3)
      replace x0 := Lib.hid (blk_below x0.out q3)
      replace bq := Lib.hid (below_on bq.out q3)
      rw [hfew.out]
      clear q3
      go_wp2_with fail
      go_ret
      exact ⟨rfl, bq.out⟩
    · have hf := (hF rfl).1
      obtain ⟨⟨q1, o1⟩, hq1⟩ : ∃ q, Stg.putC c b = q := ⟨_, rfl⟩
      obtain ⟨⟨q2, l2, o2⟩, hq2⟩ : ∃ q, Stg.takeC c = q := ⟨_, rfl⟩
      obtain ⟨q3, hq3⟩ : ∃ q, Stg.closeC c = q := ⟨_, rfl⟩
      obtain ⟨S, hS1⟩ : ∃ q, Stg.saneC c = q := ⟨_, rfl⟩
      obtain ⟨A, hA0⟩ : ∃ A, Stg.asC c = A := ⟨_, rfl⟩
      have sq1 : Stg.saneC q1 = true := by have := Stg.put_sane c b; rw [hq1] at this; exact this
      have sq2 : Stg.saneC q2 = true := by have := Stg.take_sane c; rw [hq2] at this; exact this
      have sq3 : Stg.saneC q3 = true := by have := Stg.close_sane c; rw [hq3] at this; exact this
      have sA : Stg.saneC A = true := by rw [← hA0]; exact Stg.asC_sane c
      have hf1 := few_sane sq1
      have hf2 := few_sane sq2
      have hf3 := few_sane sq3
      have hfA := few_sane sA
      have hq3c : q3.closed = true := by rw [← hq3]; rfl
      have hput := fun W V U (h : RCh N0 W V c) (h2 : RIo N0 W U b) => put_of16 hP hq1 (old0 W) hf (by omega) h h2
      have htake := fun W V (h : RCh N0 W V c) => take_of16 hT hq2 (old0 W) hf h
      have hclose := fun W V (h : RCh N0 W V c) => hC N0 V c W (old0 W) hf h
      have hsane := fun W V (h : RCh (Up N0 w) W V c) => hS (Up N0 w) V c W hf h
      have hsq1 := fun W V (h : RCh N0 W V q1) => hS N0 V q1 W hf1 h
      have hsq2 := fun W V (h : RCh N0 W V q2) => hS N0 V q2 W hf2 h
      have hsq3 := fun W V (h : RCh N0 W V q3) => hS N0 V q3 W hf3 h
      have hcq1 := fun W V (h : RCh N0 W V q1) => hN N0 V q1 W hf1 h
      have hcA := fun W V (h : RCh N0 W V A) => hN N0 V A W hfA h
      rw [hq3] at hclose
      rw [hS1] at hsane
      rw [sq1] at hsq1
      rw [sq2] at hsq2
      rw [sq3] at hsq3
      obtain ⟨N1, hN1⟩ : ∃ q, Stg.countC q1 = q := ⟨_, rfl⟩
      obtain ⟨NA, hNA⟩ : ∃ q, Stg.countC A = q := ⟨_, rfl⟩
      have hNA16 : NA ≤ 16 := by rw [← hNA]; exact Stg.count_le _
      rw [hN1] at hcq1
      rw [hNA] at hcA
      have hcnt : o1 = true → N1 = NA + b.length := fun h => by subst h; rw [← hN1, ← hNA, ← hA0]; exact put_yes hq1
      have hpn : o1 = false → q1 = A := fun h => by subst h; rw [← hA0]; exact put_not hq1
      have htn : o2 = false → q2 = A ∧ A.L = [] := fun h => by subst h; rw [← hA0]; have := take_not hq2; exact ⟨this.1, this.2.2⟩
      have hty : o2 = true → A.L ≠ [] := fun h => by subst h; rw [← hA0, (take_yes hq2).1]; simp
      have hAS : A = if S = true then c else ⟨[], false⟩ := by rw [← hA0]; unfold Stg.asC; rw [hS1]
      unfold ToldCB at hput
      unfold ToldCLB at htake
      unfold ToldC at hclose
      dsimp only at hput htake
      replace hput := Lib.hid hput
      replace htake := Lib.hid htake
      replace hclose := Lib.hid hclose
      replace hsane := Lib.hid hsane
      replace hsq1 := Lib.hid hsq1
      replace hsq2 := Lib.hid hsq2
      replace hsq3 := Lib.hid hsq3
      replace hcq1 := Lib.hid hcq1
      replace hcA := Lib.hid hcA
      replace hq3c := Lib.hid hq3c
      have hAn : S = true → A.L.length = n := fun h => by rw [hAS, if_pos h]; exact hn
      have hA2 : S = false → A.L.length = 0 := fun h => by subst h; rw [hAS]; rfl
      clear hq1 hq2 hq3 hS1 hN1 hNA hA0 hn hcl hS hP hT hC hE hN hF sq1 sq2 sq3 sA
      rcases S with _ | _ <;> rcases o1 with _ | _ <;> rcases o2 with _ | _
      · have e1 := (hpn rfl).symm
        rw [← e1] at hput hsq1 hcq1
        obtain ⟨e2, hL⟩ := htn rfl
        rw [e2] at htake hsq2
        have hL0 : A.L.length = 0 := by rw [hL]; rfl
        have hA := Lib.hid (show A = (⟨[], false⟩ : Ch) from by rw [hAS]; rfl)
        clear e1
        clear e2 hL
        clear hAS hpn htn hty hcnt hAn hA2 hL0
        go_enter Try.func7, Try.ntmps7
        replace rc := Lib.hid (rch_below rc.out (below_new w (.cells #[.slice p n cap, .bool cl] 24)))
        replace rb := Lib.hid (rio_below rb.out (below_new w (.cells #[.slice p n cap, .bool cl] 24)))
        replace bq := Lib.hid (below_on bq.out (below_new w (.cells #[.slice p n cap, .bool cl] 24)))
        have x0 := Lib.hid (blk_new w #[.slice p n cap, .bool cl] 24)
        go_wp2_with fail
        refine (hawake.out _).mono ?_
        rintro e w2 ⟨rfl, q2⟩
        replace rc := Lib.hid (rch_below rc.out q2)
        replace rb := Lib.hid (rio_below rb.out q2)
        replace x0 := Lib.hid (blk_below x0.out q2)
        replace bq := Lib.hid (below_on bq.out q2)
        clear q2
        have x0_0 := blk_cell x0.out 0 _ rfl
        have x0_1 := blk_cell x0.out 1 _ rfl
        go_wp2_with fail
        refine (rfew16 (Up N0 w) _ c w2 rc.out hmax).mono ?_
        rintro e w3 ⟨rfl, q3⟩
        clear x0_0 x0_1
        replace rc := Lib.hid (rch_below rc.out q3)
        replace rb := Lib.hid (rio_below rb.out q3)
        replace x0 := Lib.hid (blk_below x0.out q3)
        replace bq := Lib.hid (below_on bq.out q3)
        rw [hfew.out]
        clear q3
        have l0 := blk_lt x0.out
        have x0_0 := blk_cell x0.out 0 _ rfl
        have x0_1 := blk_cell x0.out 1 _ rfl
        replace rc := Lib.hid (rch_below rc.out (below_new w3 (.cells #[.slice p n cap, .bool cl] 24)))
        replace rb := Lib.hid (rio_below rb.out (below_new w3 (.cells #[.slice p n cap, .bool cl] 24)))
        replace x0 := Lib.hid (blk_below x0.out (below_new w3 (.cells #[.slice p n cap, .bool cl] 24)))
        replace bq := Lib.hid (below_on bq.out (below_new w3 (.cells #[.slice p n cap, .bool cl] 24)))
        have xw := Lib.hid (blk_new w3 #[.slice p n cap, .bool cl] 24)
        have x0_0 := blk_cell x0.out 0 _ rfl
        have x0_1 := blk_cell x0.out 1 _ rfl
        go_wp2_with fail
        refine (ours16 rc.out).mono ?_
        rintro e w4 ⟨rfl, q4⟩
        clear x0_0 x0_1
        replace rc := Lib.hid (rch_below rc.out q4)
        replace rb := Lib.hid (rio_below rb.out q4)
        replace x0 := Lib.hid (blk_below x0.out q4)
        replace xw := Lib.hid (blk_below xw.out q4)
        replace bq := Lib.hid (below_on bq.out q4)
        clear q4
        go_wp2_with fail
        refine (hsane.out _ _ rc.out).mono ?_
        rintro e w5 ⟨rfl, q5⟩
        replace rc := Lib.hid (rch_below rc.out q5)
        replace rb := Lib.hid (rio_below rb.out q5)
        replace x0 := Lib.hid (blk_below x0.out q5)
        replace xw := Lib.hid (blk_below xw.out q5)
        replace bq := Lib.hid (below_on bq.out q5)
        clear q5
        have f0 := blk_thaw xw.out 0
        have f1 := blk_thaw xw.out 1
        have xw_0 := blk_cell xw.out 0 _ rfl
        have xw_1 := blk_cell xw.out 1 _ rfl
        go_upto_region 7 with (fail)
        clear f0 f1
        clear xw_0 xw_1
        replace rc := Lib.hid (rch_but rc.out (only_set2 _ (w3.heap.size) (.slice none 0 0) (.bool false) (.inr (by omega))))
        replace rb := Lib.hid (rio_but rb.out (only_set2 _ (w3.heap.size) (.slice none 0 0) (.bool false) (.inr (by omega))))
        replace x0 := Lib.hid (blk_off2 (j := w3.heap.size) x0.out (by omega) (.slice none 0 0) (.bool false))
        replace xw := Lib.hid (blk_setAt16 (blk_setAt16 xw.out 0 (.slice none 0 0)) 1 (.bool false))
        replace bq := Lib.hid (below_set2 bq.out (show w.heap.size ≤ w3.heap.size by omega) (.slice none 0 0) (.bool false))
        have rv := Lib.hid (show RCh N0 ((w5.setCell ⟨w3.heap.size, 0, none⟩ (.slice none 0 0)).setCell ⟨w3.heap.size, 1, none⟩ (.bool false)) (.agg #[.slice none 0 0, .bool false]) A by rw [hA.out]; exact rch_zero _ _)
        have x0_0 := blk_cell x0.out 0 _ rfl
        have x0_1 := blk_cell x0.out 1 _ rfl
        go_wp2_with fail
        refine (ours16 rc.out).mono ?_
        rintro e w6 ⟨rfl, q6⟩
        clear x0_0 x0_1
        replace rc := Lib.hid (rch_below rc.out q6)
        replace rb := Lib.hid (rio_below rb.out q6)
        replace x0 := Lib.hid (blk_below x0.out q6)
        replace xw := Lib.hid (blk_below xw.out q6)
        replace rv := Lib.hid (rch_below rv.out q6)
        replace bq := Lib.hid (below_on bq.out q6)
        clear q6
        go_wp2_with fail
        refine (hput.out _ _ _ (rch_dn rc.out) (rio_dn rb.out)).mono ?_
        rintro e w7 ⟨v1, rfl, r1, q7⟩
        replace rc := Lib.hid (rch_below rc.out q7)
        replace rb := Lib.hid (rio_below rb.out q7)
        replace x0 := Lib.hid (blk_below x0.out q7)
        replace xw := Lib.hid (blk_below xw.out q7)
        replace rv := Lib.hid (rch_below rv.out q7)
        replace bq := Lib.hid (below_on bq.out q7)
        obtain ⟨p1, k1, rfl, _⟩ := rch_form r1
        replace r1 := Lib.hid r1
        clear q7
        replace rc := Lib.hid (rch_below rc.out (below_new w7 (.cells #[.slice p1 A.L.length k1, .bool A.closed] 28)))
        replace rb := Lib.hid (rio_below rb.out (below_new w7 (.cells #[.slice p1 A.L.length k1, .bool A.closed] 28)))
        replace x0 := Lib.hid (blk_below x0.out (below_new w7 (.cells #[.slice p1 A.L.length k1, .bool A.closed] 28)))
        replace xw := Lib.hid (blk_below xw.out (below_new w7 (.cells #[.slice p1 A.L.length k1, .bool A.closed] 28)))
        replace rv := Lib.hid (rch_below rv.out (below_new w7 (.cells #[.slice p1 A.L.length k1, .bool A.closed] 28)))
        replace r1 := Lib.hid (rch_below r1.out (below_new w7 (.cells #[.slice p1 A.L.length k1, .bool A.closed] 28)))
        replace bq := Lib.hid (below_on bq.out (below_new w7 (.cells #[.slice p1 A.L.length k1, .bool A.closed] 28)))
        have x1 := Lib.hid (blk_new w7 #[.slice p1 A.L.length k1, .bool A.closed] 28)
        have x0_0 := blk_cell x0.out 0 _ rfl
        have x0_1 := blk_cell x0.out 1 _ rfl
        go_wp2_with fail
        refine (ours16 rc.out).mono ?_
        rintro e w8 ⟨rfl, q8⟩
        clear x0_0 x0_1
        replace rc := Lib.hid (rch_below rc.out q8)
        replace rb := Lib.hid (rio_below rb.out q8)
        replace x0 := Lib.hid (blk_below x0.out q8)
        replace xw := Lib.hid (blk_below xw.out q8)
        replace rv := Lib.hid (rch_below rv.out q8)
        replace r1 := Lib.hid (rch_below r1.out q8)
        replace x1 := Lib.hid (blk_below x1.out q8)
        replace bq := Lib.hid (below_on bq.out q8)
        clear q8
        go_wp2_with fail
        refine (htake.out _ _ (rch_dn rc.out)).mono ?_
        rintro e w9 ⟨v3, u3, rfl, r3, s3, q9⟩
        replace rc := Lib.hid (rch_below rc.out q9)
        replace rb := Lib.hid (rio_below rb.out q9)
        replace x0 := Lib.hid (blk_below x0.out q9)
        replace xw := Lib.hid (blk_below xw.out q9)
        replace rv := Lib.hid (rch_below rv.out q9)
        replace r1 := Lib.hid (rch_below r1.out q9)
        replace x1 := Lib.hid (blk_below x1.out q9)
        replace bq := Lib.hid (below_on bq.out q9)
        obtain ⟨p3, k3, rfl, _⟩ := rch_form r3
        replace r3 := Lib.hid r3
        obtain ⟨a3, d3, rfl⟩ := ri_form s3.1
        clear s3
        clear q9
        replace rc := Lib.hid (rch_below rc.out (below_new w9 (.cells #[.slice p3 A.L.length k3, .bool A.closed] 28)))
        replace rb := Lib.hid (rio_below rb.out (below_new w9 (.cells #[.slice p3 A.L.length k3, .bool A.closed] 28)))
        replace x0 := Lib.hid (blk_below x0.out (below_new w9 (.cells #[.slice p3 A.L.length k3, .bool A.closed] 28)))
        replace xw := Lib.hid (blk_below xw.out (below_new w9 (.cells #[.slice p3 A.L.length k3, .bool A.closed] 28)))
        replace rv := Lib.hid (rch_below rv.out (below_new w9 (.cells #[.slice p3 A.L.length k3, .bool A.closed] 28)))
        replace r1 := Lib.hid (rch_below r1.out (below_new w9 (.cells #[.slice p3 A.L.length k3, .bool A.closed] 28)))
        replace x1 := Lib.hid (blk_below x1.out (below_new w9 (.cells #[.slice p3 A.L.length k3, .bool A.closed] 28)))
        replace r3 := Lib.hid (rch_below r3.out (below_new w9 (.cells #[.slice p3 A.L.length k3, .bool A.closed] 28)))
        replace bq := Lib.hid (below_on bq.out (below_new w9 (.cells #[.slice p3 A.L.length k3, .bool A.closed] 28)))
        have x3 := Lib.hid (blk_new w9 #[.slice p3 A.L.length k3, .bool A.closed] 28)
        have x0_0 := blk_cell x0.out 0 _ rfl
        have x0_1 := blk_cell x0.out 1 _ rfl
        go_wp2_with fail
        refine (ours16 rc.out).mono ?_
        rintro e w10 ⟨rfl, q10⟩
        clear x0_0 x0_1
        replace rc := Lib.hid (rch_below rc.out q10)
        replace rb := Lib.hid (rio_below rb.out q10)
        replace x0 := Lib.hid (blk_below x0.out q10)
        replace xw := Lib.hid (blk_below xw.out q10)
        replace rv := Lib.hid (rch_below rv.out q10)
        replace r1 := Lib.hid (rch_below r1.out q10)
        replace x1 := Lib.hid (blk_below x1.out q10)
        replace r3 := Lib.hid (rch_below r3.out q10)
        replace x3 := Lib.hid (blk_below x3.out q10)
        replace bq := Lib.hid (below_on bq.out q10)
        clear q10
        go_wp2_with fail
        refine (hclose.out _ _ (rch_dn rc.out)).mono ?_
        rintro e w11 ⟨v5, rfl, r5, q11⟩
        replace rc := Lib.hid (rch_below rc.out q11)
        replace rb := Lib.hid (rio_below rb.out q11)
        replace x0 := Lib.hid (blk_below x0.out q11)
        replace xw := Lib.hid (blk_below xw.out q11)
        replace rv := Lib.hid (rch_below rv.out q11)
        replace r1 := Lib.hid (rch_below r1.out q11)
        replace x1 := Lib.hid (blk_below x1.out q11)
        replace r3 := Lib.hid (rch_below r3.out q11)
        replace x3 := Lib.hid (blk_below x3.out q11)
        replace bq := Lib.hid (below_on bq.out q11)
        obtain ⟨p5, k5, rfl, _⟩ := rch_form r5
        rw [hq3c.out] at r5 ⊢
        replace r5 := Lib.hid r5
        clear q11
        replace rc := Lib.hid (rch_below rc.out (below_new w11 (.cells #[.slice p5 q3.L.length k5, .bool true] 28)))
        replace rb := Lib.hid (rio_below rb.out (below_new w11 (.cells #[.slice p5 q3.L.length k5, .bool true] 28)))
        replace x0 := Lib.hid (blk_below x0.out (below_new w11 (.cells #[.slice p5 q3.L.length k5, .bool true] 28)))
        replace xw := Lib.hid (blk_below xw.out (below_new w11 (.cells #[.slice p5 q3.L.length k5, .bool true] 28)))
        replace rv := Lib.hid (rch_below rv.out (below_new w11 (.cells #[.slice p5 q3.L.length k5, .bool true] 28)))
        replace r1 := Lib.hid (rch_below r1.out (below_new w11 (.cells #[.slice p5 q3.L.length k5, .bool true] 28)))
        replace x1 := Lib.hid (blk_below x1.out (below_new w11 (.cells #[.slice p5 q3.L.length k5, .bool true] 28)))
        replace r3 := Lib.hid (rch_below r3.out (below_new w11 (.cells #[.slice p5 q3.L.length k5, .bool true] 28)))
        replace x3 := Lib.hid (blk_below x3.out (below_new w11 (.cells #[.slice p5 q3.L.length k5, .bool true] 28)))
        replace r5 := Lib.hid (rch_below r5.out (below_new w11 (.cells #[.slice p5 q3.L.length k5, .bool true] 28)))
        replace bq := Lib.hid (below_on bq.out (below_new w11 (.cells #[.slice p5 q3.L.length k5, .bool true] 28)))
        have x5 := Lib.hid (blk_new w11 #[.slice p5 q3.L.length k5, .bool true] 28)
        have x1_0 := blk_cell x1.out 0 _ rfl
        have x1_1 := blk_cell x1.out 1 _ rfl
        have xw_0 := blk_cell xw.out 0 _ rfl
        have xw_1 := blk_cell xw.out 1 _ rfl
        go_wp2_with fail
        refine (lsame_self16 hfA r1.out rv.out).mono ?_
        rintro e w12 ⟨rfl, q12⟩
        clear x1_0 x1_1 xw_0 xw_1
        replace rc := Lib.hid (rch_below rc.out q12)
        replace rb := Lib.hid (rio_below rb.out q12)
        replace x0 := Lib.hid (blk_below x0.out q12)
        replace xw := Lib.hid (blk_below xw.out q12)
        replace rv := Lib.hid (rch_below rv.out q12)
        replace r1 := Lib.hid (rch_below r1.out q12)
        replace x1 := Lib.hid (blk_below x1.out q12)
        replace r3 := Lib.hid (rch_below r3.out q12)
        replace x3 := Lib.hid (blk_below x3.out q12)
        replace r5 := Lib.hid (rch_below r5.out q12)
        replace x5 := Lib.hid (blk_below x5.out q12)
        replace bq := Lib.hid (below_on bq.out q12)
        clear q12
        have x3_0 := blk_cell x3.out 0 _ rfl
        have x3_1 := blk_cell x3.out 1 _ rfl
        have xw_0 := blk_cell xw.out 0 _ rfl
        have xw_1 := blk_cell xw.out 1 _ rfl
        go_wp2_with fail
        refine (lsame_self16 hfA r3.out rv.out).mono ?_
        rintro e w13 ⟨rfl, q13⟩
        clear x3_0 x3_1 xw_0 xw_1
        replace rc := Lib.hid (rch_below rc.out q13)
        replace rb := Lib.hid (rio_below rb.out q13)
        replace x0 := Lib.hid (blk_below x0.out q13)
        replace xw := Lib.hid (blk_below xw.out q13)
        replace rv := Lib.hid (rch_below rv.out q13)
        replace r1 := Lib.hid (rch_below r1.out q13)
        replace x1 := Lib.hid (blk_below x1.out q13)
        replace r3 := Lib.hid (rch_below r3.out q13)
        replace x3 := Lib.hid (blk_below x3.out q13)
        replace r5 := Lib.hid (rch_below r5.out q13)
        replace x5 := Lib.hid (blk_below x5.out q13)
        replace bq := Lib.hid (below_on bq.out q13)
        clear q13
        clear x0 rb rc
        go_upto_region 12 with (fail)
        have H8 := Lib.hid (show _ ∧ _ ∧ _ ∧ _ ∧ _ ∧ _ ∧ _ ∧ _ from ⟨blk_cell x1.out 0 _ rfl, blk_cell x1.out 1 _ rfl, blk_cell x3.out 0 _ rfl, blk_cell x3.out 1 _ rfl, blk_cell x5.out 0 _ rfl, blk_cell x5.out 1 _ rfl, blk_cell xw.out 0 _ rfl, blk_cell xw.out 1 _ rfl⟩)
        clear x1 x3 x5 xw
        refine wp_region_held_drew (S := fun w' => w'.cell? ⟨w7.heap.size, 0, none⟩ = some (.slice p1 A.L.length k1) ∧ w'.cell? ⟨w7.heap.size, 1, none⟩ = some (.bool A.closed) ∧ w'.cell? ⟨w9.heap.size, 0, none⟩ = some (.slice p3 A.L.length k3) ∧ w'.cell? ⟨w9.heap.size, 1, none⟩ = some (.bool A.closed) ∧ w'.cell? ⟨w11.heap.size, 0, none⟩ = some (.slice p5 q3.L.length k5) ∧ w'.cell? ⟨w11.heap.size, 1, none⟩ = some (.bool true) ∧ w'.cell? ⟨w3.heap.size, 0, none⟩ = some (.slice none 0 0) ∧ w'.cell? ⟨w3.heap.size, 1, none⟩ = some (.bool false)) (by kernel_rfl) (H8.out) (fun hS => ?_)
        replace rv := Lib.hid (rch_below rv.out (Below.refl _ _).drew)
        replace r1 := Lib.hid (rch_below r1.out (Below.refl _ _).drew)
        replace r3 := Lib.hid (rch_below r3.out (Below.refl _ _).drew)
        replace r5 := Lib.hid (rch_below r5.out (Below.refl _ _).drew)
        replace bq := Lib.hid (below_on bq.out (Below.refl _ _).drew)
        refine' wpAnyH_take (i := 0) (oi := ⟨_, _, _, _, _, _⟩) (v := _) rfl (by kernel_rfl) (by kernel_rfl) (by kernel_rfl) (fun _ _ _ h => h) (Or.inl ⟨by rfl, ?hyc0000⟩) hS ?restc0000
        case hyc0000 => (intro wz hSw; (try dsimp only at hSw); go_simp; try with_reducible rfl)
        try simp only [Act.put, List.setIfInBounds_toArray, List.set_cons_zero, List.set_cons_succ]
        refine' wpAnyH_take (i := 1) (oi := ⟨_, _, _, _, _, _⟩) (v := _) rfl (by kernel_rfl) (by kernel_rfl) (by kernel_rfl) (fun _ _ _ h => h) (Or.inl ⟨by rfl, ?hyc0001⟩) hS ?restc0001
        case hyc0001 => (intro wz hSw; (try dsimp only at hSw); go_simp; try with_reducible rfl)
        try simp only [Act.put, List.setIfInBounds_toArray, List.set_cons_zero, List.set_cons_succ]
        refine' wpAnyH_take (i := 2) (oi := ⟨_, _, _, _, _, _⟩) (v := _) rfl (by kernel_rfl) (by kernel_rfl) (by kernel_rfl) (fun _ _ _ h => h) (Or.inl ⟨by rfl, ?hyc0002⟩) hS ?restc0002
        case hyc0002 => (intro wz hSw; (try dsimp only at hSw); go_simp; try with_reducible rfl)
        try simp only [Act.put, List.setIfInBounds_toArray, List.set_cons_zero, List.set_cons_succ]
        refine wpAnyH_ready (rs := [3]) (by kernel_rfl) (by simp) (AllReadyH.cons rfl (fun K hK => ?_) AllReadyH.nil)
        go_simp
        go_at_call 18
        refine (hsq1.out _ _ r1.out).mono ?_
        rintro e w14 ⟨rfl, q14⟩
        go_wp2_with fail
        refine hK.out _ _ (held8_16 q14 hS) (fun hSn => ?_)
        clear hS
        have hS := hSn
        clear hSn
        clear hK K
        try simp only [Act.put, List.setIfInBounds_toArray, List.set_cons_zero, List.set_cons_succ]
        replace rv := Lib.hid (rch_below rv.out q14)
        replace r1 := Lib.hid (rch_below r1.out q14)
        replace r3 := Lib.hid (rch_below r3.out q14)
        replace r5 := Lib.hid (rch_below r5.out q14)
        replace bq := Lib.hid (below_on bq.out q14)
        clear q14
        refine' wpAnyH_take (i := 4) (oi := ⟨_, _, _, _, _, _⟩) (v := _) rfl (by kernel_rfl) (by kernel_rfl) (by kernel_rfl) (fun _ _ _ h => h) (Or.inl ⟨by rfl, ?hyc0004⟩) hS ?restc0004
        case hyc0004 => (intro wz hSw; (try dsimp only at hSw); go_simp; try with_reducible rfl)
        try simp only [Act.put, List.setIfInBounds_toArray, List.set_cons_zero, List.set_cons_succ]
        refine' wpAnyH_take (i := 5) (oi := ⟨_, _, _, _, _, _⟩) (v := _) rfl (by kernel_rfl) (by kernel_rfl) (by kernel_rfl) (fun _ _ _ h => h) (Or.inl ⟨by rfl, ?hyc0005⟩) hS ?restc0005
        case hyc0005 => (intro wz hSw; (try dsimp only at hSw); go_simp; try with_reducible rfl)
        try simp only [Act.put, List.setIfInBounds_toArray, List.set_cons_zero, List.set_cons_succ]
        refine' wpAnyH_take (i := 6) (oi := ⟨_, _, _, _, _, _⟩) (v := _) rfl (by kernel_rfl) (by kernel_rfl) (by kernel_rfl) (fun _ _ _ h => h) (Or.inl ⟨by rfl, ?hyc0006⟩) hS ?restc0006
        case hyc0006 => (intro wz hSw; (try dsimp only at hSw); go_simp; try with_reducible rfl)
        try simp only [Act.put, List.setIfInBounds_toArray, List.set_cons_zero, List.set_cons_succ]
        refine wpAnyH_ready (rs := [7]) (by kernel_rfl) (by simp) (AllReadyH.cons rfl (fun K hK => ?_) AllReadyH.nil)
        go_simp
        go_at_call 18
        refine (hsq2.out _ _ r3.out).mono ?_
        rintro e w15 ⟨rfl, q15⟩
        go_wp2_with fail
        refine hK.out _ _ (held8_16 q15 hS) (fun hSn => ?_)
        clear hS
        have hS := hSn
        clear hSn
        clear hK K
        try simp only [Act.put, List.setIfInBounds_toArray, List.set_cons_zero, List.set_cons_succ]
        replace rv := Lib.hid (rch_below rv.out q15)
        replace r1 := Lib.hid (rch_below r1.out q15)
        replace r3 := Lib.hid (rch_below r3.out q15)
        replace r5 := Lib.hid (rch_below r5.out q15)
        replace bq := Lib.hid (below_on bq.out q15)
        clear q15
        refine' wpAnyH_take (i := 8) (oi := ⟨_, _, _, _, _, _⟩) (v := _) rfl (by kernel_rfl) (by kernel_rfl) (by kernel_rfl) (fun _ _ _ h => h) (Or.inl ⟨by rfl, ?hyc0008⟩) hS ?restc0008
        case hyc0008 => (intro wz hSw; (try dsimp only at hSw); go_simp; try with_reducible rfl)
        try simp only [Act.put, List.setIfInBounds_toArray, List.set_cons_zero, List.set_cons_succ]
        refine' wpAnyH_take (i := 9) (oi := ⟨_, _, _, _, _, _⟩) (v := _) rfl (by kernel_rfl) (by kernel_rfl) (by kernel_rfl) (fun _ _ _ h => h) (Or.inl ⟨by rfl, ?hyc0009⟩) hS ?restc0009
        case hyc0009 => (intro wz hSw; (try dsimp only at hSw); go_simp; try with_reducible rfl)
        try simp only [Act.put, List.setIfInBounds_toArray, List.set_cons_zero, List.set_cons_succ]
        refine' wpAnyH_take (i := 10) (oi := ⟨_, _, _, _, _, _⟩) (v := _) rfl (by kernel_rfl) (by kernel_rfl) (by kernel_rfl) (fun _ _ _ h => h) (Or.inl ⟨by rfl, ?hyc00010⟩) hS ?restc00010
        case hyc00010 => (intro wz hSw; (try dsimp only at hSw); go_simp; try with_reducible rfl)
        try simp only [Act.put, List.setIfInBounds_toArray, List.set_cons_zero, List.set_cons_succ]
        refine wpAnyH_ready (rs := [11]) (by kernel_rfl) (by simp) (AllReadyH.cons rfl (fun K hK => ?_) AllReadyH.nil)
        go_simp
        go_at_call 18
        refine (hsq3.out _ _ r5.out).mono ?_
        rintro e w16 ⟨rfl, q16⟩
        go_wp2_with fail
        refine hK.out _ _ (held8_16 q16 hS) (fun hSn => ?_)
        clear hS
        have hS := hSn
        clear hSn
        clear hK K
        try simp only [Act.put, List.setIfInBounds_toArray, List.set_cons_zero, List.set_cons_succ]
        replace rv := Lib.hid (rch_below rv.out q16)
        replace r1 := Lib.hid (rch_below r1.out q16)
        replace r3 := Lib.hid (rch_below r3.out q16)
        replace r5 := Lib.hid (rch_below r5.out q16)
        replace bq := Lib.hid (below_on bq.out q16)
        clear q16
        refine' wpAnyH_take (i := 12) (oi := ⟨_, _, _, _, _, _⟩) (v := _) rfl (by kernel_rfl) (by kernel_rfl) (by kernel_rfl) (fun _ _ _ h => h) (Or.inl ⟨by rfl, ?hyc00012⟩) hS ?restc00012
        case hyc00012 => (intro wz hSw; (try dsimp only at hSw); go_simp; try with_reducible rfl)
        try simp only [Act.put, List.setIfInBounds_toArray, List.set_cons_zero, List.set_cons_succ]
        refine' wpAnyH_take (i := 13) (oi := ⟨_, _, _, _, _, _⟩) (v := _) rfl (by kernel_rfl) (by kernel_rfl) (by kernel_rfl) (fun _ _ _ h => h) (Or.inl ⟨by rfl, ?hyc00013⟩) hS ?restc00013
        case hyc00013 => (intro wz hSw; (try dsimp only at hSw); go_simp; try with_reducible rfl)
        try simp only [Act.put, List.setIfInBounds_toArray, List.set_cons_zero, List.set_cons_succ]
        refine' wpAnyH_take (i := 14) (oi := ⟨_, _, _, _, _, _⟩) (v := _) rfl (by kernel_rfl) (by kernel_rfl) (by kernel_rfl) (fun _ _ _ h => h) (Or.inl ⟨by rfl, ?hyc00014⟩) hS ?restc00014
        case hyc00014 => (intro wz hSw; (try dsimp only at hSw); go_simp; try with_reducible rfl)
        try simp only [Act.put, List.setIfInBounds_toArray, List.set_cons_zero, List.set_cons_succ]
        refine' wpAnyH_take (i := 15) (oi := ⟨_, _, _, _, _, _⟩) (v := _) rfl (by kernel_rfl) (by kernel_rfl) (by kernel_rfl) (fun _ _ _ h => h) (Or.inl ⟨by rfl, ?hyc00015⟩) hS ?restc00015
        case hyc00015 => (intro wz hSw; (try dsimp only at hSw); go_simp; try with_reducible rfl)
        try simp only [Act.put, List.setIfInBounds_toArray, List.set_cons_zero, List.set_cons_succ]
        refine' wpAnyH_take (i := 16) (oi := ⟨_, _, _, _, _, _⟩) (v := _) rfl (by kernel_rfl) (by kernel_rfl) (by kernel_rfl) (fun _ _ _ h => h) (Or.inl ⟨by rfl, ?hyc00016⟩) hS ?restc00016
        case hyc00016 => (intro wz hSw; (try dsimp only at hSw); go_simp; try with_reducible rfl)
        try simp only [Act.put, List.setIfInBounds_toArray, List.set_cons_zero, List.set_cons_succ]
        refine' wpAnyH_take (i := 17) (oi := ⟨_, _, _, _, _, _⟩) (v := _) rfl (by kernel_rfl) (by kernel_rfl) (by kernel_rfl) (fun _ _ _ h => h) (Or.inl ⟨by rfl, ?hyc00017⟩) hS ?restc00017
        case hyc00017 => (intro wz hSw; (try dsimp only at hSw); go_simp; try with_reducible rfl)
        try simp only [Act.put, List.setIfInBounds_toArray, List.set_cons_zero, List.set_cons_succ]
        refine' wpAnyH_take (i := 18) (oi := ⟨_, _, _, _, _, _⟩) (v := _) rfl (by kernel_rfl) (by kernel_rfl) (by kernel_rfl) (fun _ _ _ h => h) (Or.inl ⟨by rfl, ?hyc00018⟩) hS ?restc00018
        case hyc00018 => (intro wz hSw; (try dsimp only at hSw); go_simp; try with_reducible rfl)
        try simp only [Act.put, List.setIfInBounds_toArray, List.set_cons_zero, List.set_cons_succ]
        refine' wpAnyH_take (i := 19) (oi := ⟨_, _, _, _, _, _⟩) (v := _) rfl (by kernel_rfl) (by kernel_rfl) (by kernel_rfl) (fun _ _ _ h => h) (Or.inl ⟨by rfl, ?hyc00019⟩) hS ?restc00019
        case hyc00019 => (intro wz hSw; (try dsimp only at hSw); go_simp; try with_reducible rfl)
        try simp only [Act.put, List.setIfInBounds_toArray, List.set_cons_zero, List.set_cons_succ]
        refine' wpAnyH_take (i := 20) (oi := ⟨_, _, _, _, _, _⟩) (v := _) rfl (by kernel_rfl) (by kernel_rfl) (by kernel_rfl) (fun _ _ _ h => h) (Or.inl ⟨by rfl, ?hyc00020⟩) hS ?restc00020
        case hyc00020 => (intro wz hSw; (try dsimp only at hSw); go_simp; try with_reducible rfl)
        try simp only [Act.put, List.setIfInBounds_toArray, List.set_cons_zero, List.set_cons_succ]
        refine' wpAnyH_take (i := 21) (oi := ⟨_, _, _, _, _, _⟩) (v := undef) rfl (by kernel_rfl) (by kernel_rfl) (by kernel_rfl) (fun _ _ _ h => h) (Or.inr ⟨by rfl, rfl⟩) hS ?restc00021
        try simp only [Act.put, List.setIfInBounds_toArray, List.set_cons_zero, List.set_cons_succ]
        refine' wpAnyH_take (i := 22) (oi := ⟨_, _, _, _, _, _⟩) (v := undef) rfl (by kernel_rfl) (by kernel_rfl) (by kernel_rfl) (fun _ _ _ h => h) (Or.inr ⟨by rfl, rfl⟩) hS ?restc00022
        try simp only [Act.put, List.setIfInBounds_toArray, List.set_cons_zero, List.set_cons_succ]
        refine' wpAnyH_take (i := 23) (oi := ⟨_, _, _, _, _, _⟩) (v := undef) rfl (by kernel_rfl) (by kernel_rfl) (by kernel_rfl) (fun _ _ _ h => h) (Or.inr ⟨by rfl, rfl⟩) hS ?restc00023
        try simp only [Act.put, List.setIfInBounds_toArray, List.set_cons_zero, List.set_cons_succ]
        refine' wpAnyH_take (i := 24) (oi := ⟨_, _, _, _, _, _⟩) (v := undef) rfl (by kernel_rfl) (by kernel_rfl) (by kernel_rfl) (fun _ _ _ h => h) (Or.inr ⟨by rfl, rfl⟩) hS ?restc00024
        try simp only [Act.put, List.setIfInBounds_toArray, List.set_cons_zero, List.set_cons_succ]
        refine' wpAnyH_take (i := 25) (oi := ⟨_, _, _, _, _, _⟩) (v := undef) rfl (by kernel_rfl) (by kernel_rfl) (by kernel_rfl) (fun _ _ _ h => h) (Or.inr ⟨by rfl, rfl⟩) hS ?restc00025
        try simp only [Act.put, List.setIfInBounds_toArray, List.set_cons_zero, List.set_cons_succ]
        refine' wpAnyH_take (i := 26) (oi := ⟨_, _, _, _, _, _⟩) (v := undef) rfl (by kernel_rfl) (by kernel_rfl) (by kernel_rfl) (fun _ _ _ h => h) (Or.inr ⟨by rfl, rfl⟩) hS ?restc00026
        try simp only [Act.put, List.setIfInBounds_toArray, List.set_cons_zero, List.set_cons_succ]
        refine' wpAnyH_take (i := 27) (oi := ⟨_, _, _, _, _, _⟩) (v := undef) rfl (by kernel_rfl) (by kernel_rfl) (by kernel_rfl) (fun _ _ _ h => h) (Or.inr ⟨by rfl, rfl⟩) hS ?restc00027
        try simp only [Act.put, List.setIfInBounds_toArray, List.set_cons_zero, List.set_cons_succ]
        refine' wpAnyH_take (i := 28) (oi := ⟨_, _, _, _, _, _⟩) (v := undef) rfl (by kernel_rfl) (by kernel_rfl) (by kernel_rfl) (fun _ _ _ h => h) (Or.inr ⟨by rfl, rfl⟩) hS ?restc00028
        try simp only [Act.put, List.setIfInBounds_toArray, List.set_cons_zero, List.set_cons_succ]
        refine' wpAnyH_take (i := 29) (oi := ⟨_, _, _, _, _, _⟩) (v := undef) rfl (by kernel_rfl) (by kernel_rfl) (by kernel_rfl) (fun _ _ _ h => h) (Or.inr ⟨by rfl, rfl⟩) hS ?restc00029
        try simp only [Act.put, List.setIfInBounds_toArray, List.set_cons_zero, List.set_cons_succ]
        refine' wpAnyH_take (i := 30) (oi := ⟨_, _, _, _, _, _⟩) (v := _) rfl (by kernel_rfl) (by kernel_rfl) (by kernel_rfl) (fun _ _ _ h => h) (Or.inl ⟨by rfl, ?hyc00030⟩) hS ?restc00030
        case hyc00030 => (intro wz hSw; (try dsimp only at hSw); go_simp; try with_reducible rfl)
        try simp only [Act.put, List.setIfInBounds_toArray, List.set_cons_zero, List.set_cons_succ]
        refine' wpAnyH_take (i := 31) (oi := ⟨_, _, _, _, _, _⟩) (v := _) rfl (by kernel_rfl) (by kernel_rfl) (by kernel_rfl) (fun _ _ _ h => h) (Or.inl ⟨by rfl, ?hyc00031⟩) hS ?restc00031
        case hyc00031 => (intro wz hSw; (try dsimp only at hSw); go_simp; try with_reducible rfl)
        try simp only [Act.put, List.setIfInBounds_toArray, List.set_cons_zero, List.set_cons_succ]
        refine' wpAnyH_take (i := 32) (oi := ⟨_, _, _, _, _, _⟩) (v := _) rfl (by kernel_rfl) (by kernel_rfl) (by kernel_rfl) (fun _ _ _ h => h) (Or.inl ⟨by rfl, ?hyc00032⟩) hS ?restc00032
        case hyc00032 => (intro wz hSw; (try dsimp only at hSw); go_simp; try with_reducible rfl)
        try simp only [Act.put, List.setIfInBounds_toArray, List.set_cons_zero, List.set_cons_succ]
        refine' wpAnyH_take (i := 33) (oi := ⟨_, _, _, _, _, _⟩) (v := _) rfl (by kernel_rfl) (by kernel_rfl) (by kernel_rfl) (fun _ _ _ h => h) (Or.inl ⟨by rfl, ?hyc00033⟩) hS ?restc00033
        case hyc00033 => (intro wz hSw; (try dsimp only at hSw); go_simp; try with_reducible rfl)
        try simp only [Act.put, List.setIfInBounds_toArray, List.set_cons_zero, List.set_cons_succ]
        refine' wpAnyH_take (i := 34) (oi := ⟨_, _, _, _, _, _⟩) (v := _) rfl (by kernel_rfl) (by kernel_rfl) (by kernel_rfl) (fun _ _ _ h => h) (Or.inl ⟨by rfl, ?hyc00034⟩) hS ?restc00034
        case hyc00034 => (intro wz hSw; (try dsimp only at hSw); go_simp; try with_reducible rfl)
        try simp only [Act.put, List.setIfInBounds_toArray, List.set_cons_zero, List.set_cons_succ]
        refine' wpAnyH_take (i := 35) (oi := ⟨_, _, _, _, _, _⟩) (v := _) rfl (by kernel_rfl) (by kernel_rfl) (by kernel_rfl) (fun _ _ _ h => h) (Or.inl ⟨by rfl, ?hyc00035⟩) hS ?restc00035
        case hyc00035 => (intro wz hSw; (try dsimp only at hSw); go_simp; try with_reducible rfl)
        try simp only [Act.put, List.setIfInBounds_toArray, List.set_cons_zero, List.set_cons_succ]
        refine' wpAnyH_take (i := 36) (oi := ⟨_, _, _, _, _, _⟩) (v := _) rfl (by kernel_rfl) (by kernel_rfl) (by kernel_rfl) (fun _ _ _ h => h) (Or.inl ⟨by rfl, ?hyc00036⟩) hS ?restc00036
        case hyc00036 => (intro wz hSw; (try dsimp only at hSw); go_simp; try with_reducible rfl)
        try simp only [Act.put, List.setIfInBounds_toArray, List.set_cons_zero, List.set_cons_succ]
        refine' wpAnyH_take (i := 37) (oi := ⟨_, _, _, _, _, _⟩) (v := _) rfl (by kernel_rfl) (by kernel_rfl) (by kernel_rfl) (fun _ _ _ h => h) (Or.inl ⟨by rfl, ?hyc00037⟩) hS ?restc00037
        case hyc00037 => (intro wz hSw; (try dsimp only at hSw); go_simp; try with_reducible rfl)
        try simp only [Act.put, List.setIfInBounds_toArray, List.set_cons_zero, List.set_cons_succ]
        refine' wpAnyH_take (i := 38) (oi := ⟨_, _, _, _, _, _⟩) (v := _) rfl (by kernel_rfl) (by kernel_rfl) (by kernel_rfl) (fun _ _ _ h => h) (Or.inl ⟨by rfl, ?hyc00038⟩) hS ?restc00038
        case hyc00038 => (intro wz hSw; (try dsimp only at hSw); go_simp; try with_reducible rfl)
        try simp only [Act.put, List.setIfInBounds_toArray, List.set_cons_zero, List.set_cons_succ]
        refine' wpAnyH_take (i := 39) (oi := ⟨_, _, _, _, _, _⟩) (v := _) rfl (by kernel_rfl) (by kernel_rfl) (by kernel_rfl) (fun _ _ _ h => h) (Or.inl ⟨by rfl, ?hyc00039⟩) hS ?restc00039
        case hyc00039 => (intro wz hSw; (try dsimp only at hSw); go_simp; try with_reducible rfl)
        try simp only [Act.put, List.setIfInBounds_toArray, List.set_cons_zero, List.set_cons_succ]
        refine' wpAnyH_take (i := 40) (oi := ⟨_, _, _, _, _, _⟩) (v := _) rfl (by kernel_rfl) (by kernel_rfl) (by kernel_rfl) (fun _ _ _ h => h) (Or.inl ⟨by rfl, ?hyc00040⟩) hS ?restc00040
        case hyc00040 => (intro wz hSw; (try dsimp only at hSw); go_simp; try with_reducible rfl)
        try simp only [Act.put, List.setIfInBounds_toArray, List.set_cons_zero, List.set_cons_succ]
        refine wpAnyH_done (by kernel_rfl) ?_ _
        clear hS
        go_simp
        go_wp2_with fail
        go_ret
        exact ⟨rfl, bq.out⟩
      · exact absurd (List.length_pos_iff.2 (hty rfl)) (by rw [hA2 rfl]; omega)
      · have hc1 := hcnt rfl
        have hwr : IntKind.i64.wrap ((NA : Int) + (b.length : Int)) = (NA : Int) + (b.length : Int) := (by rw [IntKind.wrap_i64]; omega)
        obtain ⟨e2, hL⟩ := htn rfl
        rw [e2] at htake hsq2
        have hL0 : A.L.length = 0 := by rw [hL]; rfl
        have hA := Lib.hid (show A = (⟨[], false⟩ : Ch) from by rw [hAS]; rfl)
        clear e2 hL
        clear hAS hpn htn hty hcnt hAn hA2 hL0
        go_enter Try.func7, Try.ntmps7
        replace rc := Lib.hid (rch_below rc.out (below_new w (.cells #[.slice p n cap, .bool cl] 24)))
        replace rb := Lib.hid (rio_below rb.out (below_new w (.cells #[.slice p n cap, .bool cl] 24)))
        replace bq := Lib.hid (below_on bq.out (below_new w (.cells #[.slice p n cap, .bool cl] 24)))
        have x0 := Lib.hid (blk_new w #[.slice p n cap, .bool cl] 24)
        go_wp2_with fail
        refine (hawake.out _).mono ?_
        rintro e w2 ⟨rfl, q2⟩
        replace rc := Lib.hid (rch_below rc.out q2)
        replace rb := Lib.hid (rio_below rb.out q2)
        replace x0 := Lib.hid (blk_below x0.out q2)
        replace bq := Lib.hid (below_on bq.out q2)
        clear q2
        have x0_0 := blk_cell x0.out 0 _ rfl
        have x0_1 := blk_cell x0.out 1 _ rfl
        go_wp2_with fail
        refine (rfew16 (Up N0 w) _ c w2 rc.out hmax).mono ?_
        rintro e w3 ⟨rfl, q3⟩
        clear x0_0 x0_1
        replace rc := Lib.hid (rch_below rc.out q3)
        replace rb := Lib.hid (rio_below rb.out q3)
        replace x0 := Lib.hid (blk_below x0.out q3)
        replace bq := Lib.hid (below_on bq.out q3)
        rw [hfew.out]
        clear q3
        have l0 := blk_lt x0.out
        have x0_0 := blk_cell x0.out 0 _ rfl
        have x0_1 := blk_cell x0.out 1 _ rfl
        replace rc := Lib.hid (rch_below rc.out (below_new w3 (.cells #[.slice p n cap, .bool cl] 24)))
        replace rb := Lib.hid (rio_below rb.out (below_new w3 (.cells #[.slice p n cap, .bool cl] 24)))
        replace x0 := Lib.hid (blk_below x0.out (below_new w3 (.cells #[.slice p n cap, .bool cl] 24)))
        replace bq := Lib.hid (below_on bq.out (below_new w3 (.cells #[.slice p n cap, .bool cl] 24)))
        have xw := Lib.hid (blk_new w3 #[.slice p n cap, .bool cl] 24)
        have x0_0 := blk_cell x0.out 0 _ rfl
        have x0_1 := blk_cell x0.out 1 _ rfl
        go_wp2_with fail
        refine (ours16 rc.out).mono ?_
        rintro e w4 ⟨rfl, q4⟩
        clear x0_0 x0_1
        replace rc := Lib.hid (rch_below rc.out q4)
        replace rb := Lib.hid (rio_below rb.out q4)
        replace x0 := Lib.hid (blk_below x0.out q4)
        replace xw := Lib.hid (blk_below xw.out q4)
        replace bq := Lib.hid (below_on bq.out q4)
        clear q4
        go_wp2_with fail
        refine (hsane.out _ _ rc.out).mono ?_
        rintro e w5 ⟨rfl, q5⟩
        replace rc := Lib.hid (rch_below rc.out q5)
        replace rb := Lib.hid (rio_below rb.out q5)
        replace x0 := Lib.hid (blk_below x0.out q5)
        replace xw := Lib.hid (blk_below xw.out q5)
        replace bq := Lib.hid (below_on bq.out q5)
        clear q5
        have f0 := blk_thaw xw.out 0
        have f1 := blk_thaw xw.out 1
        have xw_0 := blk_cell xw.out 0 _ rfl
        have xw_1 := blk_cell xw.out 1 _ rfl
        go_upto_region 7 with (fail)
        clear f0 f1
        clear xw_0 xw_1
        replace rc := Lib.hid (rch_but rc.out (only_set2 _ (w3.heap.size) (.slice none 0 0) (.bool false) (.inr (by omega))))
        replace rb := Lib.hid (rio_but rb.out (only_set2 _ (w3.heap.size) (.slice none 0 0) (.bool false) (.inr (by omega))))
        replace x0 := Lib.hid (blk_off2 (j := w3.heap.size) x0.out (by omega) (.slice none 0 0) (.bool false))
        replace xw := Lib.hid (blk_setAt16 (blk_setAt16 xw.out 0 (.slice none 0 0)) 1 (.bool false))
        replace bq := Lib.hid (below_set2 bq.out (show w.heap.size ≤ w3.heap.size by omega) (.slice none 0 0) (.bool false))
        have rv := Lib.hid (show RCh N0 ((w5.setCell ⟨w3.heap.size, 0, none⟩ (.slice none 0 0)).setCell ⟨w3.heap.size, 1, none⟩ (.bool false)) (.agg #[.slice none 0 0, .bool false]) A by rw [hA.out]; exact rch_zero _ _)
        have x0_0 := blk_cell x0.out 0 _ rfl
        have x0_1 := blk_cell x0.out 1 _ rfl
        go_wp2_with fail
        refine (ours16 rc.out).mono ?_
        rintro e w6 ⟨rfl, q6⟩
        clear x0_0 x0_1
        replace rc := Lib.hid (rch_below rc.out q6)
        replace rb := Lib.hid (rio_below rb.out q6)
        replace x0 := Lib.hid (blk_below x0.out q6)
        replace xw := Lib.hid (blk_below xw.out q6)
        replace rv := Lib.hid (rch_below rv.out q6)
        replace bq := Lib.hid (below_on bq.out q6)
        clear q6
        go_wp2_with fail
        refine (hput.out _ _ _ (rch_dn rc.out) (rio_dn rb.out)).mono ?_
        rintro e w7 ⟨v1, rfl, r1, q7⟩
        replace rc := Lib.hid (rch_below rc.out q7)
        replace rb := Lib.hid (rio_below rb.out q7)
        replace x0 := Lib.hid (blk_below x0.out q7)
        replace xw := Lib.hid (blk_below xw.out q7)
        replace rv := Lib.hid (rch_below rv.out q7)
        replace bq := Lib.hid (below_on bq.out q7)
        obtain ⟨p1, k1, rfl, _⟩ := rch_form r1
        replace r1 := Lib.hid r1
        clear q7
        replace rc := Lib.hid (rch_below rc.out (below_new w7 (.cells #[.slice p1 q1.L.length k1, .bool q1.closed] 28)))
        replace rb := Lib.hid (rio_below rb.out (below_new w7 (.cells #[.slice p1 q1.L.length k1, .bool q1.closed] 28)))
        replace x0 := Lib.hid (blk_below x0.out (below_new w7 (.cells #[.slice p1 q1.L.length k1, .bool q1.closed] 28)))
        replace xw := Lib.hid (blk_below xw.out (below_new w7 (.cells #[.slice p1 q1.L.length k1, .bool q1.closed] 28)))
        replace rv := Lib.hid (rch_below rv.out (below_new w7 (.cells #[.slice p1 q1.L.length k1, .bool q1.closed] 28)))
        replace r1 := Lib.hid (rch_below r1.out (below_new w7 (.cells #[.slice p1 q1.L.length k1, .bool q1.closed] 28)))
        replace bq := Lib.hid (below_on bq.out (below_new w7 (.cells #[.slice p1 q1.L.length k1, .bool q1.closed] 28)))
        have x1 := Lib.hid (blk_new w7 #[.slice p1 q1.L.length k1, .bool q1.closed] 28)
        have x0_0 := blk_cell x0.out 0 _ rfl
        have x0_1 := blk_cell x0.out 1 _ rfl
        go_wp2_with fail
        refine (ours16 rc.out).mono ?_
        rintro e w8 ⟨rfl, q8⟩
        clear x0_0 x0_1
        replace rc := Lib.hid (rch_below rc.out q8)
        replace rb := Lib.hid (rio_below rb.out q8)
        replace x0 := Lib.hid (blk_below x0.out q8)
        replace xw := Lib.hid (blk_below xw.out q8)
        replace rv := Lib.hid (rch_below rv.out q8)
        replace r1 := Lib.hid (rch_below r1.out q8)
        replace x1 := Lib.hid (blk_below x1.out q8)
        replace bq := Lib.hid (below_on bq.out q8)
        clear q8
        go_wp2_with fail
        refine (htake.out _ _ (rch_dn rc.out)).mono ?_
        rintro e w9 ⟨v3, u3, rfl, r3, s3, q9⟩
        replace rc := Lib.hid (rch_below rc.out q9)
        replace rb := Lib.hid (rio_below rb.out q9)
        replace x0 := Lib.hid (blk_below x0.out q9)
        replace xw := Lib.hid (blk_below xw.out q9)
        replace rv := Lib.hid (rch_below rv.out q9)
        replace r1 := Lib.hid (rch_below r1.out q9)
        replace x1 := Lib.hid (blk_below x1.out q9)
        replace bq := Lib.hid (below_on bq.out q9)
        obtain ⟨p3, k3, rfl, _⟩ := rch_form r3
        replace r3 := Lib.hid r3
        obtain ⟨a3, d3, rfl⟩ := ri_form s3.1
        clear s3
        clear q9
        replace rc := Lib.hid (rch_below rc.out (below_new w9 (.cells #[.slice p3 A.L.length k3, .bool A.closed] 28)))
        replace rb := Lib.hid (rio_below rb.out (below_new w9 (.cells #[.slice p3 A.L.length k3, .bool A.closed] 28)))
        replace x0 := Lib.hid (blk_below x0.out (below_new w9 (.cells #[.slice p3 A.L.length k3, .bool A.closed] 28)))
        replace xw := Lib.hid (blk_below xw.out (below_new w9 (.cells #[.slice p3 A.L.length k3, .bool A.closed] 28)))
        replace rv := Lib.hid (rch_below rv.out (below_new w9 (.cells #[.slice p3 A.L.length k3, .bool A.closed] 28)))
        replace r1 := Lib.hid (rch_below r1.out (below_new w9 (.cells #[.slice p3 A.L.length k3, .bool A.closed] 28)))
        replace x1 := Lib.hid (blk_below x1.out (below_new w9 (.cells #[.slice p3 A.L.length k3, .bool A.closed] 28)))
        replace r3 := Lib.hid (rch_below r3.out (below_new w9 (.cells #[.slice p3 A.L.length k3, .bool A.closed] 28)))
        replace bq := Lib.hid (below_on bq.out (below_new w9 (.cells #[.slice p3 A.L.length k3, .bool A.closed] 28)))
        have x3 := Lib.hid (blk_new w9 #[.slice p3 A.L.length k3, .bool A.closed] 28)
        have x0_0 := blk_cell x0.out 0 _ rfl
        have x0_1 := blk_cell x0.out 1 _ rfl
        go_wp2_with fail
        refine (ours16 rc.out).mono ?_
        rintro e w10 ⟨rfl, q10⟩
        clear x0_0 x0_1
        replace rc := Lib.hid (rch_below rc.out q10)
        replace rb := Lib.hid (rio_below rb.out q10)
        replace x0 := Lib.hid (blk_below x0.out q10)
        replace xw := Lib.hid (blk_below xw.out q10)
        replace rv := Lib.hid (rch_below rv.out q10)
        replace r1 := Lib.hid (rch_below r1.out q10)
        replace x1 := Lib.hid (blk_below x1.out q10)
        replace r3 := Lib.hid (rch_below r3.out q10)
        replace x3 := Lib.hid (blk_below x3.out q10)
        replace bq := Lib.hid (below_on bq.out q10)
        clear q10
        go_wp2_with fail
        refine (hclose.out _ _ (rch_dn rc.out)).mono ?_
        rintro e w11 ⟨v5, rfl, r5, q11⟩
        replace rc := Lib.hid (rch_below rc.out q11)
        replace rb := Lib.hid (rio_below rb.out q11)
        replace x0 := Lib.hid (blk_below x0.out q11)
        replace xw := Lib.hid (blk_below xw.out q11)
        replace rv := Lib.hid (rch_below rv.out q11)
        replace r1 := Lib.hid (rch_below r1.out q11)
        replace x1 := Lib.hid (blk_below x1.out q11)
        replace r3 := Lib.hid (rch_below r3.out q11)
        replace x3 := Lib.hid (blk_below x3.out q11)
        replace bq := Lib.hid (below_on bq.out q11)
        obtain ⟨p5, k5, rfl, _⟩ := rch_form r5
        rw [hq3c.out] at r5 ⊢
        replace r5 := Lib.hid r5
        clear q11
        replace rc := Lib.hid (rch_below rc.out (below_new w11 (.cells #[.slice p5 q3.L.length k5, .bool true] 28)))
        replace rb := Lib.hid (rio_below rb.out (below_new w11 (.cells #[.slice p5 q3.L.length k5, .bool true] 28)))
        replace x0 := Lib.hid (blk_below x0.out (below_new w11 (.cells #[.slice p5 q3.L.length k5, .bool true] 28)))
        replace xw := Lib.hid (blk_below xw.out (below_new w11 (.cells #[.slice p5 q3.L.length k5, .bool true] 28)))
        replace rv := Lib.hid (rch_below rv.out (below_new w11 (.cells #[.slice p5 q3.L.length k5, .bool true] 28)))
        replace r1 := Lib.hid (rch_below r1.out (below_new w11 (.cells #[.slice p5 q3.L.length k5, .bool true] 28)))
        replace x1 := Lib.hid (blk_below x1.out (below_new w11 (.cells #[.slice p5 q3.L.length k5, .bool true] 28)))
        replace r3 := Lib.hid (rch_below r3.out (below_new w11 (.cells #[.slice p5 q3.L.length k5, .bool true] 28)))
        replace x3 := Lib.hid (blk_below x3.out (below_new w11 (.cells #[.slice p5 q3.L.length k5, .bool true] 28)))
        replace r5 := Lib.hid (rch_below r5.out (below_new w11 (.cells #[.slice p5 q3.L.length k5, .bool true] 28)))
        replace bq := Lib.hid (below_on bq.out (below_new w11 (.cells #[.slice p5 q3.L.length k5, .bool true] 28)))
        have x5 := Lib.hid (blk_new w11 #[.slice p5 q3.L.length k5, .bool true] 28)
        have x3_0 := blk_cell x3.out 0 _ rfl
        have x3_1 := blk_cell x3.out 1 _ rfl
        have xw_0 := blk_cell xw.out 0 _ rfl
        have xw_1 := blk_cell xw.out 1 _ rfl
        go_wp2_with fail
        refine (lsame_self16 hfA r3.out rv.out).mono ?_
        rintro e w12 ⟨rfl, q12⟩
        clear x3_0 x3_1 xw_0 xw_1
        replace rc := Lib.hid (rch_below rc.out q12)
        replace rb := Lib.hid (rio_below rb.out q12)
        replace x0 := Lib.hid (blk_below x0.out q12)
        replace xw := Lib.hid (blk_below xw.out q12)
        replace rv := Lib.hid (rch_below rv.out q12)
        replace r1 := Lib.hid (rch_below r1.out q12)
        replace x1 := Lib.hid (blk_below x1.out q12)
        replace r3 := Lib.hid (rch_below r3.out q12)
        replace x3 := Lib.hid (blk_below x3.out q12)
        replace r5 := Lib.hid (rch_below r5.out q12)
        replace x5 := Lib.hid (blk_below x5.out q12)
        replace bq := Lib.hid (below_on bq.out q12)
        clear q12
        clear x0 rb rc
        go_upto_region 12 with (fail)
        have H8 := Lib.hid (show _ ∧ _ ∧ _ ∧ _ ∧ _ ∧ _ ∧ _ ∧ _ from ⟨blk_cell x1.out 0 _ rfl, blk_cell x1.out 1 _ rfl, blk_cell x3.out 0 _ rfl, blk_cell x3.out 1 _ rfl, blk_cell x5.out 0 _ rfl, blk_cell x5.out 1 _ rfl, blk_cell xw.out 0 _ rfl, blk_cell xw.out 1 _ rfl⟩)
        clear x1 x3 x5 xw
        refine wp_region_held_drew (S := fun w' => w'.cell? ⟨w7.heap.size, 0, none⟩ = some (.slice p1 q1.L.length k1) ∧ w'.cell? ⟨w7.heap.size, 1, none⟩ = some (.bool q1.closed) ∧ w'.cell? ⟨w9.heap.size, 0, none⟩ = some (.slice p3 A.L.length k3) ∧ w'.cell? ⟨w9.heap.size, 1, none⟩ = some (.bool A.closed) ∧ w'.cell? ⟨w11.heap.size, 0, none⟩ = some (.slice p5 q3.L.length k5) ∧ w'.cell? ⟨w11.heap.size, 1, none⟩ = some (.bool true) ∧ w'.cell? ⟨w3.heap.size, 0, none⟩ = some (.slice none 0 0) ∧ w'.cell? ⟨w3.heap.size, 1, none⟩ = some (.bool false)) (by kernel_rfl) (H8.out) (fun hS => ?_)
        replace rv := Lib.hid (rch_below rv.out (Below.refl _ _).drew)
        replace r1 := Lib.hid (rch_below r1.out (Below.refl _ _).drew)
        replace r3 := Lib.hid (rch_below r3.out (Below.refl _ _).drew)
        replace r5 := Lib.hid (rch_below r5.out (Below.refl _ _).drew)
        replace bq := Lib.hid (below_on bq.out (Below.refl _ _).drew)
        refine' wpAnyH_take (i := 0) (oi := ⟨_, _, _, _, _, _⟩) (v := _) rfl (by kernel_rfl) (by kernel_rfl) (by kernel_rfl) (fun _ _ _ h => h) (Or.inl ⟨by rfl, ?hyc0100⟩) hS ?restc0100
        case hyc0100 => (intro wz hSw; (try dsimp only at hSw); go_simp; try with_reducible rfl)
        try simp only [Act.put, List.setIfInBounds_toArray, List.set_cons_zero, List.set_cons_succ]
        refine' wpAnyH_take (i := 1) (oi := ⟨_, _, _, _, _, _⟩) (v := _) rfl (by kernel_rfl) (by kernel_rfl) (by kernel_rfl) (fun _ _ _ h => h) (Or.inl ⟨by rfl, ?hyc0101⟩) hS ?restc0101
        case hyc0101 => (intro wz hSw; (try dsimp only at hSw); go_simp; try with_reducible rfl)
        try simp only [Act.put, List.setIfInBounds_toArray, List.set_cons_zero, List.set_cons_succ]
        refine' wpAnyH_take (i := 2) (oi := ⟨_, _, _, _, _, _⟩) (v := _) rfl (by kernel_rfl) (by kernel_rfl) (by kernel_rfl) (fun _ _ _ h => h) (Or.inl ⟨by rfl, ?hyc0102⟩) hS ?restc0102
        case hyc0102 => (intro wz hSw; (try dsimp only at hSw); go_simp; try with_reducible rfl)
        try simp only [Act.put, List.setIfInBounds_toArray, List.set_cons_zero, List.set_cons_succ]
        refine wpAnyH_ready (rs := [3]) (by kernel_rfl) (by simp) (AllReadyH.cons rfl (fun K hK => ?_) AllReadyH.nil)
        go_simp
        go_at_call 18
        refine (hsq1.out _ _ r1.out).mono ?_
        rintro e w13 ⟨rfl, q13⟩
        go_wp2_with fail
        refine hK.out _ _ (held8_16 q13 hS) (fun hSn => ?_)
        clear hS
        have hS := hSn
        clear hSn
        clear hK K
        try simp only [Act.put, List.setIfInBounds_toArray, List.set_cons_zero, List.set_cons_succ]
        replace rv := Lib.hid (rch_below rv.out q13)
        replace r1 := Lib.hid (rch_below r1.out q13)
        replace r3 := Lib.hid (rch_below r3.out q13)
        replace r5 := Lib.hid (rch_below r5.out q13)
        replace bq := Lib.hid (below_on bq.out q13)
        clear q13
        refine' wpAnyH_take (i := 4) (oi := ⟨_, _, _, _, _, _⟩) (v := _) rfl (by kernel_rfl) (by kernel_rfl) (by kernel_rfl) (fun _ _ _ h => h) (Or.inl ⟨by rfl, ?hyc0104⟩) hS ?restc0104
        case hyc0104 => (intro wz hSw; (try dsimp only at hSw); go_simp; try with_reducible rfl)
        try simp only [Act.put, List.setIfInBounds_toArray, List.set_cons_zero, List.set_cons_succ]
        refine' wpAnyH_take (i := 5) (oi := ⟨_, _, _, _, _, _⟩) (v := _) rfl (by kernel_rfl) (by kernel_rfl) (by kernel_rfl) (fun _ _ _ h => h) (Or.inl ⟨by rfl, ?hyc0105⟩) hS ?restc0105
        case hyc0105 => (intro wz hSw; (try dsimp only at hSw); go_simp; try with_reducible rfl)
        try simp only [Act.put, List.setIfInBounds_toArray, List.set_cons_zero, List.set_cons_succ]
        refine' wpAnyH_take (i := 6) (oi := ⟨_, _, _, _, _, _⟩) (v := _) rfl (by kernel_rfl) (by kernel_rfl) (by kernel_rfl) (fun _ _ _ h => h) (Or.inl ⟨by rfl, ?hyc0106⟩) hS ?restc0106
        case hyc0106 => (intro wz hSw; (try dsimp only at hSw); go_simp; try with_reducible rfl)
        try simp only [Act.put, List.setIfInBounds_toArray, List.set_cons_zero, List.set_cons_succ]
        refine wpAnyH_ready (rs := [7]) (by kernel_rfl) (by simp) (AllReadyH.cons rfl (fun K hK => ?_) AllReadyH.nil)
        go_simp
        go_at_call 18
        refine (hsq2.out _ _ r3.out).mono ?_
        rintro e w14 ⟨rfl, q14⟩
        go_wp2_with fail
        refine hK.out _ _ (held8_16 q14 hS) (fun hSn => ?_)
        clear hS
        have hS := hSn
        clear hSn
        clear hK K
        try simp only [Act.put, List.setIfInBounds_toArray, List.set_cons_zero, List.set_cons_succ]
        replace rv := Lib.hid (rch_below rv.out q14)
        replace r1 := Lib.hid (rch_below r1.out q14)
        replace r3 := Lib.hid (rch_below r3.out q14)
        replace r5 := Lib.hid (rch_below r5.out q14)
        replace bq := Lib.hid (below_on bq.out q14)
        clear q14
        refine' wpAnyH_take (i := 8) (oi := ⟨_, _, _, _, _, _⟩) (v := _) rfl (by kernel_rfl) (by kernel_rfl) (by kernel_rfl) (fun _ _ _ h => h) (Or.inl ⟨by rfl, ?hyc0108⟩) hS ?restc0108
        case hyc0108 => (intro wz hSw; (try dsimp only at hSw); go_simp; try with_reducible rfl)
        try simp only [Act.put, List.setIfInBounds_toArray, List.set_cons_zero, List.set_cons_succ]
        refine' wpAnyH_take (i := 9) (oi := ⟨_, _, _, _, _, _⟩) (v := _) rfl (by kernel_rfl) (by kernel_rfl) (by kernel_rfl) (fun _ _ _ h => h) (Or.inl ⟨by rfl, ?hyc0109⟩) hS ?restc0109
        case hyc0109 => (intro wz hSw; (try dsimp only at hSw); go_simp; try with_reducible rfl)
        try simp only [Act.put, List.setIfInBounds_toArray, List.set_cons_zero, List.set_cons_succ]
        refine' wpAnyH_take (i := 10) (oi := ⟨_, _, _, _, _, _⟩) (v := _) rfl (by kernel_rfl) (by kernel_rfl) (by kernel_rfl) (fun _ _ _ h => h) (Or.inl ⟨by rfl, ?hyc01010⟩) hS ?restc01010
        case hyc01010 => (intro wz hSw; (try dsimp only at hSw); go_simp; try with_reducible rfl)
        try simp only [Act.put, List.setIfInBounds_toArray, List.set_cons_zero, List.set_cons_succ]
        refine wpAnyH_ready (rs := [11]) (by kernel_rfl) (by simp) (AllReadyH.cons rfl (fun K hK => ?_) AllReadyH.nil)
        go_simp
        go_at_call 18
        refine (hsq3.out _ _ r5.out).mono ?_
        rintro e w15 ⟨rfl, q15⟩
        go_wp2_with fail
        refine hK.out _ _ (held8_16 q15 hS) (fun hSn => ?_)
        clear hS
        have hS := hSn
        clear hSn
        clear hK K
        try simp only [Act.put, List.setIfInBounds_toArray, List.set_cons_zero, List.set_cons_succ]
        replace rv := Lib.hid (rch_below rv.out q15)
        replace r1 := Lib.hid (rch_below r1.out q15)
        replace r3 := Lib.hid (rch_below r3.out q15)
        replace r5 := Lib.hid (rch_below r5.out q15)
        replace bq := Lib.hid (below_on bq.out q15)
        clear q15
        refine' wpAnyH_take (i := 12) (oi := ⟨_, _, _, _, _, _⟩) (v := _) rfl (by kernel_rfl) (by kernel_rfl) (by kernel_rfl) (fun _ _ _ h => h) (Or.inl ⟨by rfl, ?hyc01012⟩) hS ?restc01012
        case hyc01012 => (intro wz hSw; (try dsimp only at hSw); go_simp; try with_reducible rfl)
        try simp only [Act.put, List.setIfInBounds_toArray, List.set_cons_zero, List.set_cons_succ]
        refine' wpAnyH_take (i := 13) (oi := ⟨_, _, _, _, _, _⟩) (v := _) rfl (by kernel_rfl) (by kernel_rfl) (by kernel_rfl) (fun _ _ _ h => h) (Or.inl ⟨by rfl, ?hyc01013⟩) hS ?restc01013
        case hyc01013 => (intro wz hSw; (try dsimp only at hSw); go_simp; try with_reducible rfl)
        try simp only [Act.put, List.setIfInBounds_toArray, List.set_cons_zero, List.set_cons_succ]
        refine' wpAnyH_take (i := 14) (oi := ⟨_, _, _, _, _, _⟩) (v := _) rfl (by kernel_rfl) (by kernel_rfl) (by kernel_rfl) (fun _ _ _ h => h) (Or.inl ⟨by rfl, ?hyc01014⟩) hS ?restc01014
        case hyc01014 => (intro wz hSw; (try dsimp only at hSw); go_simp; try with_reducible rfl)
        try simp only [Act.put, List.setIfInBounds_toArray, List.set_cons_zero, List.set_cons_succ]
        refine' wpAnyH_take (i := 15) (oi := ⟨_, _, _, _, _, _⟩) (v := _) rfl (by kernel_rfl) (by kernel_rfl) (by kernel_rfl) (fun _ _ _ h => h) (Or.inl ⟨by rfl, ?hyc01015⟩) hS ?restc01015
        case hyc01015 => (intro wz hSw; (try dsimp only at hSw); go_simp; try with_reducible rfl)
        try simp only [Act.put, List.setIfInBounds_toArray, List.set_cons_zero, List.set_cons_succ]
        refine' wpAnyH_take (i := 16) (oi := ⟨_, _, _, _, _, _⟩) (v := _) rfl (by kernel_rfl) (by kernel_rfl) (by kernel_rfl) (fun _ _ _ h => h) (Or.inl ⟨by rfl, ?hyc01016⟩) hS ?restc01016
        case hyc01016 => (intro wz hSw; (try dsimp only at hSw); go_simp; try with_reducible rfl)
        try simp only [Act.put, List.setIfInBounds_toArray, List.set_cons_zero, List.set_cons_succ]
        refine' wpAnyH_take (i := 17) (oi := ⟨_, _, _, _, _, _⟩) (v := _) rfl (by kernel_rfl) (by kernel_rfl) (by kernel_rfl) (fun _ _ _ h => h) (Or.inl ⟨by rfl, ?hyc01017⟩) hS ?restc01017
        case hyc01017 => (intro wz hSw; (try dsimp only at hSw); go_simp; try with_reducible rfl)
        try simp only [Act.put, List.setIfInBounds_toArray, List.set_cons_zero, List.set_cons_succ]
        refine' wpAnyH_take (i := 18) (oi := ⟨_, _, _, _, _, _⟩) (v := _) rfl (by kernel_rfl) (by kernel_rfl) (by kernel_rfl) (fun _ _ _ h => h) (Or.inl ⟨by rfl, ?hyc01018⟩) hS ?restc01018
        case hyc01018 => (intro wz hSw; (try dsimp only at hSw); go_simp; try with_reducible rfl)
        try simp only [Act.put, List.setIfInBounds_toArray, List.set_cons_zero, List.set_cons_succ]
        refine' wpAnyH_take (i := 19) (oi := ⟨_, _, _, _, _, _⟩) (v := _) rfl (by kernel_rfl) (by kernel_rfl) (by kernel_rfl) (fun _ _ _ h => h) (Or.inl ⟨by rfl, ?hyc01019⟩) hS ?restc01019
        case hyc01019 => (intro wz hSw; (try dsimp only at hSw); go_simp; try with_reducible rfl)
        try simp only [Act.put, List.setIfInBounds_toArray, List.set_cons_zero, List.set_cons_succ]
        refine' wpAnyH_take (i := 20) (oi := ⟨_, _, _, _, _, _⟩) (v := _) rfl (by kernel_rfl) (by kernel_rfl) (by kernel_rfl) (fun _ _ _ h => h) (Or.inl ⟨by rfl, ?hyc01020⟩) hS ?restc01020
        case hyc01020 => (intro wz hSw; (try dsimp only at hSw); go_simp; try with_reducible rfl)
        try simp only [Act.put, List.setIfInBounds_toArray, List.set_cons_zero, List.set_cons_succ]
        refine' wpAnyH_take (i := 21) (oi := ⟨_, _, _, _, _, _⟩) (v := _) rfl (by kernel_rfl) (by kernel_rfl) (by kernel_rfl) (fun _ _ _ h => h) (Or.inl ⟨by rfl, ?hyc01021⟩) hS ?restc01021
        case hyc01021 => (intro wz hSw; (try dsimp only at hSw); go_simp; try with_reducible rfl)
        try simp only [Act.put, List.setIfInBounds_toArray, List.set_cons_zero, List.set_cons_succ]
        refine' wpAnyH_take (i := 23) (oi := ⟨_, _, _, _, _, _⟩) (v := _) rfl (by kernel_rfl) (by kernel_rfl) (by kernel_rfl) (fun _ _ _ h => h) (Or.inl ⟨by rfl, ?hyc01023⟩) hS ?restc01023
        case hyc01023 => (intro wz hSw; (try dsimp only at hSw); go_simp; try with_reducible rfl)
        try simp only [Act.put, List.setIfInBounds_toArray, List.set_cons_zero, List.set_cons_succ]
        refine' wpAnyH_take (i := 26) (oi := ⟨_, _, _, _, _, _⟩) (v := _) rfl (by kernel_rfl) (by kernel_rfl) (by kernel_rfl) (fun _ _ _ h => h) (Or.inl ⟨by rfl, ?hyc01026⟩) hS ?restc01026
        case hyc01026 => (intro wz hSw; (try dsimp only at hSw); go_simp; try with_reducible rfl)
        try simp only [Act.put, List.setIfInBounds_toArray, List.set_cons_zero, List.set_cons_succ]
        refine' wpAnyH_take (i := 27) (oi := ⟨_, _, _, _, _, _⟩) (v := _) rfl (by kernel_rfl) (by kernel_rfl) (by kernel_rfl) (fun _ _ _ h => h) (Or.inl ⟨by rfl, ?hyc01027⟩) hS ?restc01027
        case hyc01027 => (intro wz hSw; (try dsimp only at hSw); go_simp; try with_reducible rfl)
        try simp only [Act.put, List.setIfInBounds_toArray, List.set_cons_zero, List.set_cons_succ]
        refine wpAnyH_ready (rs := [22]) (by kernel_rfl) (by simp) (AllReadyH.cons rfl (fun K hK => ?_) AllReadyH.nil)
        go_simp
        go_at_call 24
        refine (hcq1.out _ _ r1.out).mono ?_
        rintro e w16 ⟨rfl, q16⟩
        go_wp2_with fail
        refine hK.out _ _ (held8_16 q16 hS) (fun hSn => ?_)
        clear hS
        have hS := hSn
        clear hSn
        clear hK K
        try simp only [Act.put, List.setIfInBounds_toArray, List.set_cons_zero, List.set_cons_succ]
        replace rv := Lib.hid (rch_below rv.out q16)
        replace r1 := Lib.hid (rch_below r1.out q16)
        replace r3 := Lib.hid (rch_below r3.out q16)
        replace r5 := Lib.hid (rch_below r5.out q16)
        replace bq := Lib.hid (below_on bq.out q16)
        clear q16
        refine wpAnyH_ready (rs := [24]) (by kernel_rfl) (by simp) (AllReadyH.cons rfl (fun K hK => ?_) AllReadyH.nil)
        go_simp
        go_at_call 12
        refine (ours16 rv.out).mono ?_
        rintro e w17 ⟨rfl, q17⟩
        go_wp2_with fail
        refine hK.out _ _ (held8_16 q17 hS) (fun hSn => ?_)
        clear hS
        have hS := hSn
        clear hSn
        clear hK K
        try simp only [Act.put, List.setIfInBounds_toArray, List.set_cons_zero, List.set_cons_succ]
        replace rv := Lib.hid (rch_below rv.out q17)
        replace r1 := Lib.hid (rch_below r1.out q17)
        replace r3 := Lib.hid (rch_below r3.out q17)
        replace r5 := Lib.hid (rch_below r5.out q17)
        replace bq := Lib.hid (below_on bq.out q17)
        clear q17
        refine wpAnyH_ready (rs := [25]) (by kernel_rfl) (by simp) (AllReadyH.cons rfl (fun K hK => ?_) AllReadyH.nil)
        go_simp
        go_at_call 24
        refine (hcA.out _ _ rv.out).mono ?_
        rintro e w18 ⟨rfl, q18⟩
        go_wp2_with fail
        refine hK.out _ _ (held8_16 q18 hS) (fun hSn => ?_)
        clear hS
        have hS := hSn
        clear hSn
        clear hK K
        try simp only [Act.put, List.setIfInBounds_toArray, List.set_cons_zero, List.set_cons_succ]
        replace rv := Lib.hid (rch_below rv.out q18)
        replace r1 := Lib.hid (rch_below r1.out q18)
        replace r3 := Lib.hid (rch_below r3.out q18)
        replace r5 := Lib.hid (rch_below r5.out q18)
        replace bq := Lib.hid (below_on bq.out q18)
        clear q18
        refine' wpAnyH_take (i := 28) (oi := ⟨_, _, _, _, _, _⟩) (v := _) rfl (by kernel_rfl) (by kernel_rfl) (by kernel_rfl) (fun _ _ _ h => h) (Or.inl ⟨by rfl, ?hyc01028⟩) hS ?restc01028
        case hyc01028 => (intro wz hSw; (try dsimp only at hSw); go_simp; try with_reducible rfl)
        try simp only [Act.put, List.setIfInBounds_toArray, List.set_cons_zero, List.set_cons_succ]
        refine' wpAnyH_take (i := 29) (oi := ⟨_, _, _, _, _, _⟩) (v := _) rfl (by kernel_rfl) (by kernel_rfl) (by kernel_rfl) (fun _ _ _ h => h) (Or.inl ⟨by rfl, ?hyc01029⟩) hS ?restc01029
        case hyc01029 => (intro wz hSw; (try dsimp only at hSw); go_simp; try with_reducible rfl)
        try simp only [Act.put, List.setIfInBounds_toArray, List.set_cons_zero, List.set_cons_succ]
        refine' wpAnyH_take (i := 30) (oi := ⟨_, _, _, _, _, _⟩) (v := _) rfl (by kernel_rfl) (by kernel_rfl) (by kernel_rfl) (fun _ _ _ h => h) (Or.inl ⟨by rfl, ?hyc01030⟩) hS ?restc01030
        case hyc01030 => (intro wz hSw; (try dsimp only at hSw); go_simp; try with_reducible rfl)
        try simp only [Act.put, List.setIfInBounds_toArray, List.set_cons_zero, List.set_cons_succ]
        refine' wpAnyH_take (i := 31) (oi := ⟨_, _, _, _, _, _⟩) (v := _) rfl (by kernel_rfl) (by kernel_rfl) (by kernel_rfl) (fun _ _ _ h => h) (Or.inl ⟨by rfl, ?hyc01031⟩) hS ?restc01031
        case hyc01031 => (intro wz hSw; (try dsimp only at hSw); go_simp; try with_reducible rfl)
        try simp only [Act.put, List.setIfInBounds_toArray, List.set_cons_zero, List.set_cons_succ]
        refine' wpAnyH_take (i := 32) (oi := ⟨_, _, _, _, _, _⟩) (v := _) rfl (by kernel_rfl) (by kernel_rfl) (by kernel_rfl) (fun _ _ _ h => h) (Or.inl ⟨by rfl, ?hyc01032⟩) hS ?restc01032
        case hyc01032 => (intro wz hSw; (try dsimp only at hSw); go_simp; try with_reducible rfl)
        try simp only [Act.put, List.setIfInBounds_toArray, List.set_cons_zero, List.set_cons_succ]
        refine' wpAnyH_take (i := 33) (oi := ⟨_, _, _, _, _, _⟩) (v := _) rfl (by kernel_rfl) (by kernel_rfl) (by kernel_rfl) (fun _ _ _ h => h) (Or.inl ⟨by rfl, ?hyc01033⟩) hS ?restc01033
        case hyc01033 => (intro wz hSw; (try dsimp only at hSw); go_simp; try with_reducible rfl)
        try simp only [Act.put, List.setIfInBounds_toArray, List.set_cons_zero, List.set_cons_succ]
        refine' wpAnyH_take (i := 34) (oi := ⟨_, _, _, _, _, _⟩) (v := _) rfl (by kernel_rfl) (by kernel_rfl) (by kernel_rfl) (fun _ _ _ h => h) (Or.inl ⟨by rfl, ?hyc01034⟩) hS ?restc01034
        case hyc01034 => (intro wz hSw; (try dsimp only at hSw); go_simp; try with_reducible rfl)
        try simp only [Act.put, List.setIfInBounds_toArray, List.set_cons_zero, List.set_cons_succ]
        refine' wpAnyH_take (i := 35) (oi := ⟨_, _, _, _, _, _⟩) (v := _) rfl (by kernel_rfl) (by kernel_rfl) (by kernel_rfl) (fun _ _ _ h => h) (Or.inl ⟨by rfl, ?hyc01035⟩) hS ?restc01035
        case hyc01035 => (intro wz hSw; (try dsimp only at hSw); go_simp; try with_reducible rfl)
        try simp only [Act.put, List.setIfInBounds_toArray, List.set_cons_zero, List.set_cons_succ]
        refine' wpAnyH_take (i := 36) (oi := ⟨_, _, _, _, _, _⟩) (v := _) rfl (by kernel_rfl) (by kernel_rfl) (by kernel_rfl) (fun _ _ _ h => h) (Or.inl ⟨by rfl, ?hyc01036⟩) hS ?restc01036
        case hyc01036 => (intro wz hSw; (try dsimp only at hSw); go_simp; try with_reducible rfl)
        try simp only [Act.put, List.setIfInBounds_toArray, List.set_cons_zero, List.set_cons_succ]
        refine' wpAnyH_take (i := 37) (oi := ⟨_, _, _, _, _, _⟩) (v := _) rfl (by kernel_rfl) (by kernel_rfl) (by kernel_rfl) (fun _ _ _ h => h) (Or.inl ⟨by rfl, ?hyc01037⟩) hS ?restc01037
        case hyc01037 => (intro wz hSw; (try dsimp only at hSw); go_simp; try with_reducible rfl)
        try simp only [Act.put, List.setIfInBounds_toArray, List.set_cons_zero, List.set_cons_succ]
        refine' wpAnyH_take (i := 38) (oi := ⟨_, _, _, _, _, _⟩) (v := _) rfl (by kernel_rfl) (by kernel_rfl) (by kernel_rfl) (fun _ _ _ h => h) (Or.inl ⟨by rfl, ?hyc01038⟩) hS ?restc01038
        case hyc01038 => (intro wz hSw; (try dsimp only at hSw); go_simp; try with_reducible rfl)
        try simp only [Act.put, List.setIfInBounds_toArray, List.set_cons_zero, List.set_cons_succ]
        refine' wpAnyH_take (i := 39) (oi := ⟨_, _, _, _, _, _⟩) (v := _) rfl (by kernel_rfl) (by kernel_rfl) (by kernel_rfl) (fun _ _ _ h => h) (Or.inl ⟨by rfl, ?hyc01039⟩) hS ?restc01039
        case hyc01039 => (intro wz hSw; (try dsimp only at hSw); go_simp; try with_reducible rfl)
        try simp only [Act.put, List.setIfInBounds_toArray, List.set_cons_zero, List.set_cons_succ]
        refine' wpAnyH_take (i := 40) (oi := ⟨_, _, _, _, _, _⟩) (v := _) rfl (by kernel_rfl) (by kernel_rfl) (by kernel_rfl) (fun _ _ _ h => h) (Or.inl ⟨by rfl, ?hyc01040⟩) hS ?restc01040
        case hyc01040 => (intro wz hSw; (try dsimp only at hSw); go_simp; try with_reducible rfl)
        try simp only [Act.put, List.setIfInBounds_toArray, List.set_cons_zero, List.set_cons_succ]
        refine wpAnyH_done (by kernel_rfl) ?_ _
        clear hS
        go_simp
        go_wp2_with fail
        go_ret
        exact ⟨rfl, bq.out⟩
      · exact absurd (List.length_pos_iff.2 (hty rfl)) (by rw [hA2 rfl]; omega)
      · have e1 := (hpn rfl).symm
        rw [← e1] at hput hsq1 hcq1
        obtain ⟨e2, hL⟩ := htn rfl
        rw [e2] at htake hsq2
        have hL0 : A.L.length = 0 := by rw [hL]; rfl
        have hA := Lib.hid (show A = c from by rw [hAS]; rfl)
        clear e1
        clear e2 hL
        have hln := hAn rfl
        rw [hln] at hL0
        subst hL0
        clear hAS hpn htn hty hcnt hAn hA2 hln
        go_enter Try.func7, Try.ntmps7
        replace rc := Lib.hid (rch_below rc.out (below_new w (.cells #[.slice p 0 cap, .bool cl] 24)))
        replace rb := Lib.hid (rio_below rb.out (below_new w (.cells #[.slice p 0 cap, .bool cl] 24)))
        replace bq := Lib.hid (below_on bq.out (below_new w (.cells #[.slice p 0 cap, .bool cl] 24)))
        have x0 := Lib.hid (blk_new w #[.slice p 0 cap, .bool cl] 24)
        go_wp2_with fail
        refine (hawake.out _).mono ?_
        rintro e w2 ⟨rfl, q2⟩
        replace rc := Lib.hid (rch_below rc.out q2)
        replace rb := Lib.hid (rio_below rb.out q2)
        replace x0 := Lib.hid (blk_below x0.out q2)
        replace bq := Lib.hid (below_on bq.out q2)
        clear q2
        have x0_0 := blk_cell x0.out 0 _ rfl
        have x0_1 := blk_cell x0.out 1 _ rfl
        go_wp2_with fail
        refine (rfew16 (Up N0 w) _ c w2 rc.out hmax).mono ?_
        rintro e w3 ⟨rfl, q3⟩
        clear x0_0 x0_1
        replace rc := Lib.hid (rch_below rc.out q3)
        replace rb := Lib.hid (rio_below rb.out q3)
        replace x0 := Lib.hid (blk_below x0.out q3)
        replace bq := Lib.hid (below_on bq.out q3)
        rw [hfew.out]
        clear q3
        have l0 := blk_lt x0.out
        have x0_0 := blk_cell x0.out 0 _ rfl
        have x0_1 := blk_cell x0.out 1 _ rfl
        replace rc := Lib.hid (rch_below rc.out (below_new w3 (.cells #[.slice p 0 cap, .bool cl] 24)))
        replace rb := Lib.hid (rio_below rb.out (below_new w3 (.cells #[.slice p 0 cap, .bool cl] 24)))
        replace x0 := Lib.hid (blk_below x0.out (below_new w3 (.cells #[.slice p 0 cap, .bool cl] 24)))
        replace bq := Lib.hid (below_on bq.out (below_new w3 (.cells #[.slice p 0 cap, .bool cl] 24)))
        have xw := Lib.hid (blk_new w3 #[.slice p 0 cap, .bool cl] 24)
        have x0_0 := blk_cell x0.out 0 _ rfl
        have x0_1 := blk_cell x0.out 1 _ rfl
        go_wp2_with fail
        refine (ours16 rc.out).mono ?_
        rintro e w4 ⟨rfl, q4⟩
        clear x0_0 x0_1
        replace rc := Lib.hid (rch_below rc.out q4)
        replace rb := Lib.hid (rio_below rb.out q4)
        replace x0 := Lib.hid (blk_below x0.out q4)
        replace xw := Lib.hid (blk_below xw.out q4)
        replace bq := Lib.hid (below_on bq.out q4)
        clear q4
        go_wp2_with fail
        refine (hsane.out _ _ rc.out).mono ?_
        rintro e w5 ⟨rfl, q5⟩
        replace rc := Lib.hid (rch_below rc.out q5)
        replace rb := Lib.hid (rio_below rb.out q5)
        replace x0 := Lib.hid (blk_below x0.out q5)
        replace xw := Lib.hid (blk_below xw.out q5)
        replace bq := Lib.hid (below_on bq.out q5)
        clear q5
        have rv := Lib.hid (show RCh N0 w5 (.agg #[.slice p 0 cap, .bool cl]) A by rw [hA.out]; exact (rch_dn rc.out))
        have x0_0 := blk_cell x0.out 0 _ rfl
        have x0_1 := blk_cell x0.out 1 _ rfl
        go_wp2_with fail
        refine (ours16 rc.out).mono ?_
        rintro e w6 ⟨rfl, q6⟩
        clear x0_0 x0_1
        replace rc := Lib.hid (rch_below rc.out q6)
        replace rb := Lib.hid (rio_below rb.out q6)
        replace x0 := Lib.hid (blk_below x0.out q6)
        replace xw := Lib.hid (blk_below xw.out q6)
        replace rv := Lib.hid (rch_below rv.out q6)
        replace bq := Lib.hid (below_on bq.out q6)
        clear q6
        go_wp2_with fail
        refine (hput.out _ _ _ (rch_dn rc.out) (rio_dn rb.out)).mono ?_
        rintro e w7 ⟨v1, rfl, r1, q7⟩
        replace rc := Lib.hid (rch_below rc.out q7)
        replace rb := Lib.hid (rio_below rb.out q7)
        replace x0 := Lib.hid (blk_below x0.out q7)
        replace xw := Lib.hid (blk_below xw.out q7)
        replace rv := Lib.hid (rch_below rv.out q7)
        replace bq := Lib.hid (below_on bq.out q7)
        obtain ⟨p1, k1, rfl, _⟩ := rch_form r1
        replace r1 := Lib.hid r1
        clear q7
        replace rc := Lib.hid (rch_below rc.out (below_new w7 (.cells #[.slice p1 A.L.length k1, .bool A.closed] 28)))
        replace rb := Lib.hid (rio_below rb.out (below_new w7 (.cells #[.slice p1 A.L.length k1, .bool A.closed] 28)))
        replace x0 := Lib.hid (blk_below x0.out (below_new w7 (.cells #[.slice p1 A.L.length k1, .bool A.closed] 28)))
        replace xw := Lib.hid (blk_below xw.out (below_new w7 (.cells #[.slice p1 A.L.length k1, .bool A.closed] 28)))
        replace rv := Lib.hid (rch_below rv.out (below_new w7 (.cells #[.slice p1 A.L.length k1, .bool A.closed] 28)))
        replace r1 := Lib.hid (rch_below r1.out (below_new w7 (.cells #[.slice p1 A.L.length k1, .bool A.closed] 28)))
        replace bq := Lib.hid (below_on bq.out (below_new w7 (.cells #[.slice p1 A.L.length k1, .bool A.closed] 28)))
        have x1 := Lib.hid (blk_new w7 #[.slice p1 A.L.length k1, .bool A.closed] 28)
        have x0_0 := blk_cell x0.out 0 _ rfl
        have x0_1 := blk_cell x0.out 1 _ rfl
        go_wp2_with fail
        refine (ours16 rc.out).mono ?_
        rintro e w8 ⟨rfl, q8⟩
        clear x0_0 x0_1
        replace rc := Lib.hid (rch_below rc.out q8)
        replace rb := Lib.hid (rio_below rb.out q8)
        replace x0 := Lib.hid (blk_below x0.out q8)
        replace xw := Lib.hid (blk_below xw.out q8)
        replace rv := Lib.hid (rch_below rv.out q8)
        replace r1 := Lib.hid (rch_below r1.out q8)
        replace x1 := Lib.hid (blk_below x1.out q8)
        replace bq := Lib.hid (below_on bq.out q8)
        clear q8
        go_wp2_with fail
        refine (htake.out _ _ (rch_dn rc.out)).mono ?_
        rintro e w9 ⟨v3, u3, rfl, r3, s3, q9⟩
        replace rc := Lib.hid (rch_below rc.out q9)
        replace rb := Lib.hid (rio_below rb.out q9)
        replace x0 := Lib.hid (blk_below x0.out q9)
        replace xw := Lib.hid (blk_below xw.out q9)
        replace rv := Lib.hid (rch_below rv.out q9)
        replace r1 := Lib.hid (rch_below r1.out q9)
        replace x1 := Lib.hid (blk_below x1.out q9)
        replace bq := Lib.hid (below_on bq.out q9)
        obtain ⟨p3, k3, rfl, _⟩ := rch_form r3
        replace r3 := Lib.hid r3
        obtain ⟨a3, d3, rfl⟩ := ri_form s3.1
        clear s3
        clear q9
        replace rc := Lib.hid (rch_below rc.out (below_new w9 (.cells #[.slice p3 A.L.length k3, .bool A.closed] 28)))
        replace rb := Lib.hid (rio_below rb.out (below_new w9 (.cells #[.slice p3 A.L.length k3, .bool A.closed] 28)))
        replace x0 := Lib.hid (blk_below x0.out (below_new w9 (.cells #[.slice p3 A.L.length k3, .bool A.closed] 28)))
        replace xw := Lib.hid (blk_below xw.out (below_new w9 (.cells #[.slice p3 A.L.length k3, .bool A.closed] 28)))
        replace rv := Lib.hid (rch_below rv.out (below_new w9 (.cells #[.slice p3 A.L.length k3, .bool A.closed] 28)))
        replace r1 := Lib.hid (rch_below r1.out (below_new w9 (.cells #[.slice p3 A.L.length k3, .bool A.closed] 28)))
        replace x1 := Lib.hid (blk_below x1.out (below_new w9 (.cells #[.slice p3 A.L.length k3, .bool A.closed] 28)))
        replace r3 := Lib.hid (rch_below r3.out (below_new w9 (.cells #[.slice p3 A.L.length k3, .bool A.closed] 28)))
        replace bq := Lib.hid (below_on bq.out (below_new w9 (.cells #[.slice p3 A.L.length k3, .bool A.closed] 28)))
        have x3 := Lib.hid (blk_new w9 #[.slice p3 A.L.length k3, .bool A.closed] 28)
        have x0_0 := blk_cell x0.out 0 _ rfl
        have x0_1 := blk_cell x0.out 1 _ rfl
        go_wp2_with fail
        refine (ours16 rc.out).mono ?_
        rintro e w10 ⟨rfl, q10⟩
        clear x0_0 x0_1
        replace rc := Lib.hid (rch_below rc.out q10)
        replace rb := Lib.hid (rio_below rb.out q10)
        replace x0 := Lib.hid (blk_below x0.out q10)
        replace xw := Lib.hid (blk_below xw.out q10)
        replace rv := Lib.hid (rch_below rv.out q10)
        replace r1 := Lib.hid (rch_below r1.out q10)
        replace x1 := Lib.hid (blk_below x1.out q10)
        replace r3 := Lib.hid (rch_below r3.out q10)
        replace x3 := Lib.hid (blk_below x3.out q10)
        replace bq := Lib.hid (below_on bq.out q10)
        clear q10
        go_wp2_with fail
        refine (hclose.out _ _ (rch_dn rc.out)).mono ?_
        rintro e w11 ⟨v5, rfl, r5, q11⟩
        replace rc := Lib.hid (rch_below rc.out q11)
        replace rb := Lib.hid (rio_below rb.out q11)
        replace x0 := Lib.hid (blk_below x0.out q11)
        replace xw := Lib.hid (blk_below xw.out q11)
        replace rv := Lib.hid (rch_below rv.out q11)
        replace r1 := Lib.hid (rch_below r1.out q11)
        replace x1 := Lib.hid (blk_below x1.out q11)
        replace r3 := Lib.hid (rch_below r3.out q11)
        replace x3 := Lib.hid (blk_below x3.out q11)
        replace bq := Lib.hid (below_on bq.out q11)
        obtain ⟨p5, k5, rfl, _⟩ := rch_form r5
        rw [hq3c.out] at r5 ⊢
        replace r5 := Lib.hid r5
        clear q11
        replace rc := Lib.hid (rch_below rc.out (below_new w11 (.cells #[.slice p5 q3.L.length k5, .bool true] 28)))
        replace rb := Lib.hid (rio_below rb.out (below_new w11 (.cells #[.slice p5 q3.L.length k5, .bool true] 28)))
        replace x0 := Lib.hid (blk_below x0.out (below_new w11 (.cells #[.slice p5 q3.L.length k5, .bool true] 28)))
        replace xw := Lib.hid (blk_below xw.out (below_new w11 (.cells #[.slice p5 q3.L.length k5, .bool true] 28)))
        replace rv := Lib.hid (rch_below rv.out (below_new w11 (.cells #[.slice p5 q3.L.length k5, .bool true] 28)))
        replace r1 := Lib.hid (rch_below r1.out (below_new w11 (.cells #[.slice p5 q3.L.length k5, .bool true] 28)))
        replace x1 := Lib.hid (blk_below x1.out (below_new w11 (.cells #[.slice p5 q3.L.length k5, .bool true] 28)))
        replace r3 := Lib.hid (rch_below r3.out (below_new w11 (.cells #[.slice p5 q3.L.length k5, .bool true] 28)))
        replace x3 := Lib.hid (blk_below x3.out (below_new w11 (.cells #[.slice p5 q3.L.length k5, .bool true] 28)))
        replace r5 := Lib.hid (rch_below r5.out (below_new w11 (.cells #[.slice p5 q3.L.length k5, .bool true] 28)))
        replace bq := Lib.hid (below_on bq.out (below_new w11 (.cells #[.slice p5 q3.L.length k5, .bool true] 28)))
        have x5 := Lib.hid (blk_new w11 #[.slice p5 q3.L.length k5, .bool true] 28)
        have x1_0 := blk_cell x1.out 0 _ rfl
        have x1_1 := blk_cell x1.out 1 _ rfl
        have xw_0 := blk_cell xw.out 0 _ rfl
        have xw_1 := blk_cell xw.out 1 _ rfl
        go_wp2_with fail
        refine (lsame_self16 hfA r1.out rv.out).mono ?_
        rintro e w12 ⟨rfl, q12⟩
        clear x1_0 x1_1 xw_0 xw_1
        replace rc := Lib.hid (rch_below rc.out q12)
        replace rb := Lib.hid (rio_below rb.out q12)
        replace x0 := Lib.hid (blk_below x0.out q12)
        replace xw := Lib.hid (blk_below xw.out q12)
        replace rv := Lib.hid (rch_below rv.out q12)
        replace r1 := Lib.hid (rch_below r1.out q12)
        replace x1 := Lib.hid (blk_below x1.out q12)
        replace r3 := Lib.hid (rch_below r3.out q12)
        replace x3 := Lib.hid (blk_below x3.out q12)
        replace r5 := Lib.hid (rch_below r5.out q12)
        replace x5 := Lib.hid (blk_below x5.out q12)
        replace bq := Lib.hid (below_on bq.out q12)
        clear q12
        have x3_0 := blk_cell x3.out 0 _ rfl
        have x3_1 := blk_cell x3.out 1 _ rfl
        have xw_0 := blk_cell xw.out 0 _ rfl
        have xw_1 := blk_cell xw.out 1 _ rfl
        go_wp2_with fail
        refine (lsame_self16 hfA r3.out rv.out).mono ?_
        rintro e w13 ⟨rfl, q13⟩
        clear x3_0 x3_1 xw_0 xw_1
        replace rc := Lib.hid (rch_below rc.out q13)
        replace rb := Lib.hid (rio_below rb.out q13)
        replace x0 := Lib.hid (blk_below x0.out q13)
        replace xw := Lib.hid (blk_below xw.out q13)
        replace rv := Lib.hid (rch_below rv.out q13)
        replace r1 := Lib.hid (rch_below r1.out q13)
        replace x1 := Lib.hid (blk_below x1.out q13)
        replace r3 := Lib.hid (rch_below r3.out q13)
        replace x3 := Lib.hid (blk_below x3.out q13)
        replace r5 := Lib.hid (rch_below r5.out q13)
        replace x5 := Lib.hid (blk_below x5.out q13)
        replace bq := Lib.hid (below_on bq.out q13)
        clear q13
        clear x0 rb rc
        go_upto_region 12 with (fail)
        have H8 := Lib.hid (show _ ∧ _ ∧ _ ∧ _ ∧ _ ∧ _ ∧ _ ∧ _ from ⟨blk_cell x1.out 0 _ rfl, blk_cell x1.out 1 _ rfl, blk_cell x3.out 0 _ rfl, blk_cell x3.out 1 _ rfl, blk_cell x5.out 0 _ rfl, blk_cell x5.out 1 _ rfl, blk_cell xw.out 0 _ rfl, blk_cell xw.out 1 _ rfl⟩)
        clear x1 x3 x5 xw
        refine wp_region_held_drew (S := fun w' => w'.cell? ⟨w7.heap.size, 0, none⟩ = some (.slice p1 A.L.length k1) ∧ w'.cell? ⟨w7.heap.size, 1, none⟩ = some (.bool A.closed) ∧ w'.cell? ⟨w9.heap.size, 0, none⟩ = some (.slice p3 A.L.length k3) ∧ w'.cell? ⟨w9.heap.size, 1, none⟩ = some (.bool A.closed) ∧ w'.cell? ⟨w11.heap.size, 0, none⟩ = some (.slice p5 q3.L.length k5) ∧ w'.cell? ⟨w11.heap.size, 1, none⟩ = some (.bool true) ∧ w'.cell? ⟨w3.heap.size, 0, none⟩ = some (.slice p 0 cap) ∧ w'.cell? ⟨w3.heap.size, 1, none⟩ = some (.bool cl)) (by kernel_rfl) (H8.out) (fun hS => ?_)
        replace rv := Lib.hid (rch_below rv.out (Below.refl _ _).drew)
        replace r1 := Lib.hid (rch_below r1.out (Below.refl _ _).drew)
        replace r3 := Lib.hid (rch_below r3.out (Below.refl _ _).drew)
        replace r5 := Lib.hid (rch_below r5.out (Below.refl _ _).drew)
        replace bq := Lib.hid (below_on bq.out (Below.refl _ _).drew)
        refine' wpAnyH_take (i := 0) (oi := ⟨_, _, _, _, _, _⟩) (v := _) rfl (by kernel_rfl) (by kernel_rfl) (by kernel_rfl) (fun _ _ _ h => h) (Or.inl ⟨by rfl, ?hyc1000⟩) hS ?restc1000
        case hyc1000 => (intro wz hSw; (try dsimp only at hSw); go_simp; try with_reducible rfl)
        try simp only [Act.put, List.setIfInBounds_toArray, List.set_cons_zero, List.set_cons_succ]
        refine' wpAnyH_take (i := 1) (oi := ⟨_, _, _, _, _, _⟩) (v := _) rfl (by kernel_rfl) (by kernel_rfl) (by kernel_rfl) (fun _ _ _ h => h) (Or.inl ⟨by rfl, ?hyc1001⟩) hS ?restc1001
        case hyc1001 => (intro wz hSw; (try dsimp only at hSw); go_simp; try with_reducible rfl)
        try simp only [Act.put, List.setIfInBounds_toArray, List.set_cons_zero, List.set_cons_succ]
        refine' wpAnyH_take (i := 2) (oi := ⟨_, _, _, _, _, _⟩) (v := _) rfl (by kernel_rfl) (by kernel_rfl) (by kernel_rfl) (fun _ _ _ h => h) (Or.inl ⟨by rfl, ?hyc1002⟩) hS ?restc1002
        case hyc1002 => (intro wz hSw; (try dsimp only at hSw); go_simp; try with_reducible rfl)
        try simp only [Act.put, List.setIfInBounds_toArray, List.set_cons_zero, List.set_cons_succ]
        refine wpAnyH_ready (rs := [3]) (by kernel_rfl) (by simp) (AllReadyH.cons rfl (fun K hK => ?_) AllReadyH.nil)
        go_simp
        go_at_call 18
        refine (hsq1.out _ _ r1.out).mono ?_
        rintro e w14 ⟨rfl, q14⟩
        go_wp2_with fail
        refine hK.out _ _ (held8_16 q14 hS) (fun hSn => ?_)
        clear hS
        have hS := hSn
        clear hSn
        clear hK K
        try simp only [Act.put, List.setIfInBounds_toArray, List.set_cons_zero, List.set_cons_succ]
        replace rv := Lib.hid (rch_below rv.out q14)
        replace r1 := Lib.hid (rch_below r1.out q14)
        replace r3 := Lib.hid (rch_below r3.out q14)
        replace r5 := Lib.hid (rch_below r5.out q14)
        replace bq := Lib.hid (below_on bq.out q14)
        clear q14
        refine' wpAnyH_take (i := 4) (oi := ⟨_, _, _, _, _, _⟩) (v := _) rfl (by kernel_rfl) (by kernel_rfl) (by kernel_rfl) (fun _ _ _ h => h) (Or.inl ⟨by rfl, ?hyc1004⟩) hS ?restc1004
        case hyc1004 => (intro wz hSw; (try dsimp only at hSw); go_simp; try with_reducible rfl)
        try simp only [Act.put, List.setIfInBounds_toArray, List.set_cons_zero, List.set_cons_succ]
        refine' wpAnyH_take (i := 5) (oi := ⟨_, _, _, _, _, _⟩) (v := _) rfl (by kernel_rfl) (by kernel_rfl) (by kernel_rfl) (fun _ _ _ h => h) (Or.inl ⟨by rfl, ?hyc1005⟩) hS ?restc1005
        case hyc1005 => (intro wz hSw; (try dsimp only at hSw); go_simp; try with_reducible rfl)
        try simp only [Act.put, List.setIfInBounds_toArray, List.set_cons_zero, List.set_cons_succ]
        refine' wpAnyH_take (i := 6) (oi := ⟨_, _, _, _, _, _⟩) (v := _) rfl (by kernel_rfl) (by kernel_rfl) (by kernel_rfl) (fun _ _ _ h => h) (Or.inl ⟨by rfl, ?hyc1006⟩) hS ?restc1006
        case hyc1006 => (intro wz hSw; (try dsimp only at hSw); go_simp; try with_reducible rfl)
        try simp only [Act.put, List.setIfInBounds_toArray, List.set_cons_zero, List.set_cons_succ]
        refine wpAnyH_ready (rs := [7]) (by kernel_rfl) (by simp) (AllReadyH.cons rfl (fun K hK => ?_) AllReadyH.nil)
        go_simp
        go_at_call 18
        refine (hsq2.out _ _ r3.out).mono ?_
        rintro e w15 ⟨rfl, q15⟩
        go_wp2_with fail
        refine hK.out _ _ (held8_16 q15 hS) (fun hSn => ?_)
        clear hS
        have hS := hSn
        clear hSn
        clear hK K
        try simp only [Act.put, List.setIfInBounds_toArray, List.set_cons_zero, List.set_cons_succ]
        replace rv := Lib.hid (rch_below rv.out q15)
        replace r1 := Lib.hid (rch_below r1.out q15)
        replace r3 := Lib.hid (rch_below r3.out q15)
        replace r5 := Lib.hid (rch_below r5.out q15)
        replace bq := Lib.hid (below_on bq.out q15)
        clear q15
        refine' wpAnyH_take (i := 8) (oi := ⟨_, _, _, _, _, _⟩) (v := _) rfl (by kernel_rfl) (by kernel_rfl) (by kernel_rfl) (fun _ _ _ h => h) (Or.inl ⟨by rfl, ?hyc1008⟩) hS ?restc1008
        case hyc1008 => (intro wz hSw; (try dsimp only at hSw); go_simp; try with_reducible rfl)
        try simp only [Act.put, List.setIfInBounds_toArray, List.set_cons_zero, List.set_cons_succ]
        refine' wpAnyH_take (i := 9) (oi := ⟨_, _, _, _, _, _⟩) (v := _) rfl (by kernel_rfl) (by kernel_rfl) (by kernel_rfl) (fun _ _ _ h => h) (Or.inl ⟨by rfl, ?hyc1009⟩) hS ?restc1009
        case hyc1009 => (intro wz hSw; (try dsimp only at hSw); go_simp; try with_reducible rfl)
        try simp only [Act.put, List.setIfInBounds_toArray, List.set_cons_zero, List.set_cons_succ]
        refine' wpAnyH_take (i := 10) (oi := ⟨_, _, _, _, _, _⟩) (v := _) rfl (by kernel_rfl) (by kernel_rfl) (by kernel_rfl) (fun _ _ _ h => h) (Or.inl ⟨by rfl, ?hyc10010⟩) hS ?restc10010
        case hyc10010 => (intro wz hSw; (try dsimp only at hSw); go_simp; try with_reducible rfl)
        try simp only [Act.put, List.setIfInBounds_toArray, List.set_cons_zero, List.set_cons_succ]
        refine wpAnyH_ready (rs := [11]) (by kernel_rfl) (by simp) (AllReadyH.cons rfl (fun K hK => ?_) AllReadyH.nil)
        go_simp
        go_at_call 18
        refine (hsq3.out _ _ r5.out).mono ?_
        rintro e w16 ⟨rfl, q16⟩
        go_wp2_with fail
        refine hK.out _ _ (held8_16 q16 hS) (fun hSn => ?_)
        clear hS
        have hS := hSn
        clear hSn
        clear hK K
        try simp only [Act.put, List.setIfInBounds_toArray, List.set_cons_zero, List.set_cons_succ]
        replace rv := Lib.hid (rch_below rv.out q16)
        replace r1 := Lib.hid (rch_below r1.out q16)
        replace r3 := Lib.hid (rch_below r3.out q16)
        replace r5 := Lib.hid (rch_below r5.out q16)
        replace bq := Lib.hid (below_on bq.out q16)
        clear q16
        refine' wpAnyH_take (i := 12) (oi := ⟨_, _, _, _, _, _⟩) (v := _) rfl (by kernel_rfl) (by kernel_rfl) (by kernel_rfl) (fun _ _ _ h => h) (Or.inl ⟨by rfl, ?hyc10012⟩) hS ?restc10012
        case hyc10012 => (intro wz hSw; (try dsimp only at hSw); go_simp; try with_reducible rfl)
        try simp only [Act.put, List.setIfInBounds_toArray, List.set_cons_zero, List.set_cons_succ]
        refine' wpAnyH_take (i := 13) (oi := ⟨_, _, _, _, _, _⟩) (v := _) rfl (by kernel_rfl) (by kernel_rfl) (by kernel_rfl) (fun _ _ _ h => h) (Or.inl ⟨by rfl, ?hyc10013⟩) hS ?restc10013
        case hyc10013 => (intro wz hSw; (try dsimp only at hSw); go_simp; try with_reducible rfl)
        try simp only [Act.put, List.setIfInBounds_toArray, List.set_cons_zero, List.set_cons_succ]
        refine' wpAnyH_take (i := 14) (oi := ⟨_, _, _, _, _, _⟩) (v := _) rfl (by kernel_rfl) (by kernel_rfl) (by kernel_rfl) (fun _ _ _ h => h) (Or.inl ⟨by rfl, ?hyc10014⟩) hS ?restc10014
        case hyc10014 => (intro wz hSw; (try dsimp only at hSw); go_simp; try with_reducible rfl)
        try simp only [Act.put, List.setIfInBounds_toArray, List.set_cons_zero, List.set_cons_succ]
        refine' wpAnyH_take (i := 15) (oi := ⟨_, _, _, _, _, _⟩) (v := _) rfl (by kernel_rfl) (by kernel_rfl) (by kernel_rfl) (fun _ _ _ h => h) (Or.inl ⟨by rfl, ?hyc10015⟩) hS ?restc10015
        case hyc10015 => (intro wz hSw; (try dsimp only at hSw); go_simp; try with_reducible rfl)
        try simp only [Act.put, List.setIfInBounds_toArray, List.set_cons_zero, List.set_cons_succ]
        refine' wpAnyH_take (i := 16) (oi := ⟨_, _, _, _, _, _⟩) (v := _) rfl (by kernel_rfl) (by kernel_rfl) (by kernel_rfl) (fun _ _ _ h => h) (Or.inl ⟨by rfl, ?hyc10016⟩) hS ?restc10016
        case hyc10016 => (intro wz hSw; (try dsimp only at hSw); go_simp; try with_reducible rfl)
        try simp only [Act.put, List.setIfInBounds_toArray, List.set_cons_zero, List.set_cons_succ]
        refine' wpAnyH_take (i := 17) (oi := ⟨_, _, _, _, _, _⟩) (v := _) rfl (by kernel_rfl) (by kernel_rfl) (by kernel_rfl) (fun _ _ _ h => h) (Or.inl ⟨by rfl, ?hyc10017⟩) hS ?restc10017
        case hyc10017 => (intro wz hSw; (try dsimp only at hSw); go_simp; try with_reducible rfl)
        try simp only [Act.put, List.setIfInBounds_toArray, List.set_cons_zero, List.set_cons_succ]
        refine' wpAnyH_take (i := 18) (oi := ⟨_, _, _, _, _, _⟩) (v := _) rfl (by kernel_rfl) (by kernel_rfl) (by kernel_rfl) (fun _ _ _ h => h) (Or.inl ⟨by rfl, ?hyc10018⟩) hS ?restc10018
        case hyc10018 => (intro wz hSw; (try dsimp only at hSw); go_simp; try with_reducible rfl)
        try simp only [Act.put, List.setIfInBounds_toArray, List.set_cons_zero, List.set_cons_succ]
        refine' wpAnyH_take (i := 19) (oi := ⟨_, _, _, _, _, _⟩) (v := _) rfl (by kernel_rfl) (by kernel_rfl) (by kernel_rfl) (fun _ _ _ h => h) (Or.inl ⟨by rfl, ?hyc10019⟩) hS ?restc10019
        case hyc10019 => (intro wz hSw; (try dsimp only at hSw); go_simp; try with_reducible rfl)
        try simp only [Act.put, List.setIfInBounds_toArray, List.set_cons_zero, List.set_cons_succ]
        refine' wpAnyH_take (i := 20) (oi := ⟨_, _, _, _, _, _⟩) (v := _) rfl (by kernel_rfl) (by kernel_rfl) (by kernel_rfl) (fun _ _ _ h => h) (Or.inl ⟨by rfl, ?hyc10020⟩) hS ?restc10020
        case hyc10020 => (intro wz hSw; (try dsimp only at hSw); go_simp; try with_reducible rfl)
        try simp only [Act.put, List.setIfInBounds_toArray, List.set_cons_zero, List.set_cons_succ]
        refine' wpAnyH_take (i := 21) (oi := ⟨_, _, _, _, _, _⟩) (v := undef) rfl (by kernel_rfl) (by kernel_rfl) (by kernel_rfl) (fun _ _ _ h => h) (Or.inr ⟨by rfl, rfl⟩) hS ?restc10021
        try simp only [Act.put, List.setIfInBounds_toArray, List.set_cons_zero, List.set_cons_succ]
        refine' wpAnyH_take (i := 22) (oi := ⟨_, _, _, _, _, _⟩) (v := undef) rfl (by kernel_rfl) (by kernel_rfl) (by kernel_rfl) (fun _ _ _ h => h) (Or.inr ⟨by rfl, rfl⟩) hS ?restc10022
        try simp only [Act.put, List.setIfInBounds_toArray, List.set_cons_zero, List.set_cons_succ]
        refine' wpAnyH_take (i := 23) (oi := ⟨_, _, _, _, _, _⟩) (v := undef) rfl (by kernel_rfl) (by kernel_rfl) (by kernel_rfl) (fun _ _ _ h => h) (Or.inr ⟨by rfl, rfl⟩) hS ?restc10023
        try simp only [Act.put, List.setIfInBounds_toArray, List.set_cons_zero, List.set_cons_succ]
        refine' wpAnyH_take (i := 24) (oi := ⟨_, _, _, _, _, _⟩) (v := undef) rfl (by kernel_rfl) (by kernel_rfl) (by kernel_rfl) (fun _ _ _ h => h) (Or.inr ⟨by rfl, rfl⟩) hS ?restc10024
        try simp only [Act.put, List.setIfInBounds_toArray, List.set_cons_zero, List.set_cons_succ]
        refine' wpAnyH_take (i := 25) (oi := ⟨_, _, _, _, _, _⟩) (v := undef) rfl (by kernel_rfl) (by kernel_rfl) (by kernel_rfl) (fun _ _ _ h => h) (Or.inr ⟨by rfl, rfl⟩) hS ?restc10025
        try simp only [Act.put, List.setIfInBounds_toArray, List.set_cons_zero, List.set_cons_succ]
        refine' wpAnyH_take (i := 26) (oi := ⟨_, _, _, _, _, _⟩) (v := undef) rfl (by kernel_rfl) (by kernel_rfl) (by kernel_rfl) (fun _ _ _ h => h) (Or.inr ⟨by rfl, rfl⟩) hS ?restc10026
        try simp only [Act.put, List.setIfInBounds_toArray, List.set_cons_zero, List.set_cons_succ]
        refine' wpAnyH_take (i := 27) (oi := ⟨_, _, _, _, _, _⟩) (v := undef) rfl (by kernel_rfl) (by kernel_rfl) (by kernel_rfl) (fun _ _ _ h => h) (Or.inr ⟨by rfl, rfl⟩) hS ?restc10027
        try simp only [Act.put, List.setIfInBounds_toArray, List.set_cons_zero, List.set_cons_succ]
        refine' wpAnyH_take (i := 28) (oi := ⟨_, _, _, _, _, _⟩) (v := undef) rfl (by kernel_rfl) (by kernel_rfl) (by kernel_rfl) (fun _ _ _ h => h) (Or.inr ⟨by rfl, rfl⟩) hS ?restc10028
        try simp only [Act.put, List.setIfInBounds_toArray, List.set_cons_zero, List.set_cons_succ]
        refine' wpAnyH_take (i := 29) (oi := ⟨_, _, _, _, _, _⟩) (v := undef) rfl (by kernel_rfl) (by kernel_rfl) (by kernel_rfl) (fun _ _ _ h => h) (Or.inr ⟨by rfl, rfl⟩) hS ?restc10029
        try simp only [Act.put, List.setIfInBounds_toArray, List.set_cons_zero, List.set_cons_succ]
        refine' wpAnyH_take (i := 30) (oi := ⟨_, _, _, _, _, _⟩) (v := _) rfl (by kernel_rfl) (by kernel_rfl) (by kernel_rfl) (fun _ _ _ h => h) (Or.inl ⟨by rfl, ?hyc10030⟩) hS ?restc10030
        case hyc10030 => (intro wz hSw; (try dsimp only at hSw); go_simp; try with_reducible rfl)
        try simp only [Act.put, List.setIfInBounds_toArray, List.set_cons_zero, List.set_cons_succ]
        refine' wpAnyH_take (i := 31) (oi := ⟨_, _, _, _, _, _⟩) (v := _) rfl (by kernel_rfl) (by kernel_rfl) (by kernel_rfl) (fun _ _ _ h => h) (Or.inl ⟨by rfl, ?hyc10031⟩) hS ?restc10031
        case hyc10031 => (intro wz hSw; (try dsimp only at hSw); go_simp; try with_reducible rfl)
        try simp only [Act.put, List.setIfInBounds_toArray, List.set_cons_zero, List.set_cons_succ]
        refine' wpAnyH_take (i := 32) (oi := ⟨_, _, _, _, _, _⟩) (v := _) rfl (by kernel_rfl) (by kernel_rfl) (by kernel_rfl) (fun _ _ _ h => h) (Or.inl ⟨by rfl, ?hyc10032⟩) hS ?restc10032
        case hyc10032 => (intro wz hSw; (try dsimp only at hSw); go_simp; try with_reducible rfl)
        try simp only [Act.put, List.setIfInBounds_toArray, List.set_cons_zero, List.set_cons_succ]
        refine' wpAnyH_take (i := 33) (oi := ⟨_, _, _, _, _, _⟩) (v := _) rfl (by kernel_rfl) (by kernel_rfl) (by kernel_rfl) (fun _ _ _ h => h) (Or.inl ⟨by rfl, ?hyc10033⟩) hS ?restc10033
        case hyc10033 => (intro wz hSw; (try dsimp only at hSw); go_simp; try with_reducible rfl)
        try simp only [Act.put, List.setIfInBounds_toArray, List.set_cons_zero, List.set_cons_succ]
        refine' wpAnyH_take (i := 34) (oi := ⟨_, _, _, _, _, _⟩) (v := _) rfl (by kernel_rfl) (by kernel_rfl) (by kernel_rfl) (fun _ _ _ h => h) (Or.inl ⟨by rfl, ?hyc10034⟩) hS ?restc10034
        case hyc10034 => (intro wz hSw; (try dsimp only at hSw); go_simp; try with_reducible rfl)
        try simp only [Act.put, List.setIfInBounds_toArray, List.set_cons_zero, List.set_cons_succ]
        refine' wpAnyH_take (i := 35) (oi := ⟨_, _, _, _, _, _⟩) (v := _) rfl (by kernel_rfl) (by kernel_rfl) (by kernel_rfl) (fun _ _ _ h => h) (Or.inl ⟨by rfl, ?hyc10035⟩) hS ?restc10035
        case hyc10035 => (intro wz hSw; (try dsimp only at hSw); go_simp; try with_reducible rfl)
        try simp only [Act.put, List.setIfInBounds_toArray, List.set_cons_zero, List.set_cons_succ]
        refine' wpAnyH_take (i := 36) (oi := ⟨_, _, _, _, _, _⟩) (v := _) rfl (by kernel_rfl) (by kernel_rfl) (by kernel_rfl) (fun _ _ _ h => h) (Or.inl ⟨by rfl, ?hyc10036⟩) hS ?restc10036
        case hyc10036 => (intro wz hSw; (try dsimp only at hSw); go_simp; try with_reducible rfl)
        try simp only [Act.put, List.setIfInBounds_toArray, List.set_cons_zero, List.set_cons_succ]
        refine' wpAnyH_take (i := 37) (oi := ⟨_, _, _, _, _, _⟩) (v := _) rfl (by kernel_rfl) (by kernel_rfl) (by kernel_rfl) (fun _ _ _ h => h) (Or.inl ⟨by rfl, ?hyc10037⟩) hS ?restc10037
        case hyc10037 => (intro wz hSw; (try dsimp only at hSw); go_simp; try with_reducible rfl)
        try simp only [Act.put, List.setIfInBounds_toArray, List.set_cons_zero, List.set_cons_succ]
        refine' wpAnyH_take (i := 38) (oi := ⟨_, _, _, _, _, _⟩) (v := _) rfl (by kernel_rfl) (by kernel_rfl) (by kernel_rfl) (fun _ _ _ h => h) (Or.inl ⟨by rfl, ?hyc10038⟩) hS ?restc10038
        case hyc10038 => (intro wz hSw; (try dsimp only at hSw); go_simp; try with_reducible rfl)
        try simp only [Act.put, List.setIfInBounds_toArray, List.set_cons_zero, List.set_cons_succ]
        refine' wpAnyH_take (i := 39) (oi := ⟨_, _, _, _, _, _⟩) (v := _) rfl (by kernel_rfl) (by kernel_rfl) (by kernel_rfl) (fun _ _ _ h => h) (Or.inl ⟨by rfl, ?hyc10039⟩) hS ?restc10039
        case hyc10039 => (intro wz hSw; (try dsimp only at hSw); go_simp; try with_reducible rfl)
        try simp only [Act.put, List.setIfInBounds_toArray, List.set_cons_zero, List.set_cons_succ]
        refine' wpAnyH_take (i := 40) (oi := ⟨_, _, _, _, _, _⟩) (v := _) rfl (by kernel_rfl) (by kernel_rfl) (by kernel_rfl) (fun _ _ _ h => h) (Or.inl ⟨by rfl, ?hyc10040⟩) hS ?restc10040
        case hyc10040 => (intro wz hSw; (try dsimp only at hSw); go_simp; try with_reducible rfl)
        try simp only [Act.put, List.setIfInBounds_toArray, List.set_cons_zero, List.set_cons_succ]
        refine wpAnyH_done (by kernel_rfl) ?_ _
        clear hS
        go_simp
        go_wp2_with fail
        go_ret
        exact ⟨rfl, bq.out⟩
      · have e1 := (hpn rfl).symm
        rw [← e1] at hput hsq1 hcq1
        have hL0 : 0 < A.L.length := List.length_pos_iff.2 (hty rfl)
        have hA := Lib.hid (show A = c from by rw [hAS]; rfl)
        clear e1
        have hln := hAn rfl
        rw [hln] at hL0
        clear hAS hpn htn hty hcnt hAn hA2 hln
        go_enter Try.func7, Try.ntmps7
        replace rc := Lib.hid (rch_below rc.out (below_new w (.cells #[.slice p n cap, .bool cl] 24)))
        replace rb := Lib.hid (rio_below rb.out (below_new w (.cells #[.slice p n cap, .bool cl] 24)))
        replace bq := Lib.hid (below_on bq.out (below_new w (.cells #[.slice p n cap, .bool cl] 24)))
        have x0 := Lib.hid (blk_new w #[.slice p n cap, .bool cl] 24)
        go_wp2_with fail
        refine (hawake.out _).mono ?_
        rintro e w2 ⟨rfl, q2⟩
        replace rc := Lib.hid (rch_below rc.out q2)
        replace rb := Lib.hid (rio_below rb.out q2)
        replace x0 := Lib.hid (blk_below x0.out q2)
        replace bq := Lib.hid (below_on bq.out q2)
        clear q2
        have x0_0 := blk_cell x0.out 0 _ rfl
        have x0_1 := blk_cell x0.out 1 _ rfl
        go_wp2_with fail
        refine (rfew16 (Up N0 w) _ c w2 rc.out hmax).mono ?_
        rintro e w3 ⟨rfl, q3⟩
        clear x0_0 x0_1
        replace rc := Lib.hid (rch_below rc.out q3)
        replace rb := Lib.hid (rio_below rb.out q3)
        replace x0 := Lib.hid (blk_below x0.out q3)
        replace bq := Lib.hid (below_on bq.out q3)
        rw [hfew.out]
        clear q3
        have l0 := blk_lt x0.out
        have x0_0 := blk_cell x0.out 0 _ rfl
        have x0_1 := blk_cell x0.out 1 _ rfl
        replace rc := Lib.hid (rch_below rc.out (below_new w3 (.cells #[.slice p n cap, .bool cl] 24)))
        replace rb := Lib.hid (rio_below rb.out (below_new w3 (.cells #[.slice p n cap, .bool cl] 24)))
        replace x0 := Lib.hid (blk_below x0.out (below_new w3 (.cells #[.slice p n cap, .bool cl] 24)))
        replace bq := Lib.hid (below_on bq.out (below_new w3 (.cells #[.slice p n cap, .bool cl] 24)))
        have xw := Lib.hid (blk_new w3 #[.slice p n cap, .bool cl] 24)
        have x0_0 := blk_cell x0.out 0 _ rfl
        have x0_1 := blk_cell x0.out 1 _ rfl
        go_wp2_with fail
        refine (ours16 rc.out).mono ?_
        rintro e w4 ⟨rfl, q4⟩
        clear x0_0 x0_1
        replace rc := Lib.hid (rch_below rc.out q4)
        replace rb := Lib.hid (rio_below rb.out q4)
        replace x0 := Lib.hid (blk_below x0.out q4)
        replace xw := Lib.hid (blk_below xw.out q4)
        replace bq := Lib.hid (below_on bq.out q4)
        clear q4
        go_wp2_with fail
        refine (hsane.out _ _ rc.out).mono ?_
        rintro e w5 ⟨rfl, q5⟩
        replace rc := Lib.hid (rch_below rc.out q5)
        replace rb := Lib.hid (rio_below rb.out q5)
        replace x0 := Lib.hid (blk_below x0.out q5)
        replace xw := Lib.hid (blk_below xw.out q5)
        replace bq := Lib.hid (below_on bq.out q5)
        clear q5
        have rv := Lib.hid (show RCh N0 w5 (.agg #[.slice p n cap, .bool cl]) A by rw [hA.out]; exact (rch_dn rc.out))
        have x0_0 := blk_cell x0.out 0 _ rfl
        have x0_1 := blk_cell x0.out 1 _ rfl
        go_wp2_with fail
        refine (ours16 rc.out).mono ?_
        rintro e w6 ⟨rfl, q6⟩
        clear x0_0 x0_1
        replace rc := Lib.hid (rch_below rc.out q6)
        replace rb := Lib.hid (rio_below rb.out q6)
        replace x0 := Lib.hid (blk_below x0.out q6)
        replace xw := Lib.hid (blk_below xw.out q6)
        replace rv := Lib.hid (rch_below rv.out q6)
        replace bq := Lib.hid (below_on bq.out q6)
        clear q6
        go_wp2_with fail
        refine (hput.out _ _ _ (rch_dn rc.out) (rio_dn rb.out)).mono ?_
        rintro e w7 ⟨v1, rfl, r1, q7⟩
        replace rc := Lib.hid (rch_below rc.out q7)
        replace rb := Lib.hid (rio_below rb.out q7)
        replace x0 := Lib.hid (blk_below x0.out q7)
        replace xw := Lib.hid (blk_below xw.out q7)
        replace rv := Lib.hid (rch_below rv.out q7)
        replace bq := Lib.hid (below_on bq.out q7)
        obtain ⟨p1, k1, rfl, _⟩ := rch_form r1
        replace r1 := Lib.hid r1
        clear q7
        replace rc := Lib.hid (rch_below rc.out (below_new w7 (.cells #[.slice p1 A.L.length k1, .bool A.closed] 28)))
        replace rb := Lib.hid (rio_below rb.out (below_new w7 (.cells #[.slice p1 A.L.length k1, .bool A.closed] 28)))
        replace x0 := Lib.hid (blk_below x0.out (below_new w7 (.cells #[.slice p1 A.L.length k1, .bool A.closed] 28)))
        replace xw := Lib.hid (blk_below xw.out (below_new w7 (.cells #[.slice p1 A.L.length k1, .bool A.closed] 28)))
        replace rv := Lib.hid (rch_below rv.out (below_new w7 (.cells #[.slice p1 A.L.length k1, .bool A.closed] 28)))
        replace r1 := Lib.hid (rch_below r1.out (below_new w7 (.cells #[.slice p1 A.L.length k1, .bool A.closed] 28)))
        replace bq := Lib.hid (below_on bq.out (below_new w7 (.cells #[.slice p1 A.L.length k1, .bool A.closed] 28)))
        have x1 := Lib.hid (blk_new w7 #[.slice p1 A.L.length k1, .bool A.closed] 28)
        have x0_0 := blk_cell x0.out 0 _ rfl
        have x0_1 := blk_cell x0.out 1 _ rfl
        go_wp2_with fail
        refine (ours16 rc.out).mono ?_
        rintro e w8 ⟨rfl, q8⟩
        clear x0_0 x0_1
        replace rc := Lib.hid (rch_below rc.out q8)
        replace rb := Lib.hid (rio_below rb.out q8)
        replace x0 := Lib.hid (blk_below x0.out q8)
        replace xw := Lib.hid (blk_below xw.out q8)
        replace rv := Lib.hid (rch_below rv.out q8)
        replace r1 := Lib.hid (rch_below r1.out q8)
        replace x1 := Lib.hid (blk_below x1.out q8)
        replace bq := Lib.hid (below_on bq.out q8)
        clear q8
        go_wp2_with fail
        refine (htake.out _ _ (rch_dn rc.out)).mono ?_
        rintro e w9 ⟨v3, u3, rfl, r3, s3, q9⟩
        replace rc := Lib.hid (rch_below rc.out q9)
        replace rb := Lib.hid (rio_below rb.out q9)
        replace x0 := Lib.hid (blk_below x0.out q9)
        replace xw := Lib.hid (blk_below xw.out q9)
        replace rv := Lib.hid (rch_below rv.out q9)
        replace r1 := Lib.hid (rch_below r1.out q9)
        replace x1 := Lib.hid (blk_below x1.out q9)
        replace bq := Lib.hid (below_on bq.out q9)
        obtain ⟨p3, k3, rfl, _⟩ := rch_form r3
        replace r3 := Lib.hid r3
        obtain ⟨a3, d3, rfl⟩ := ri_form s3.1
        clear s3
        clear q9
        replace rc := Lib.hid (rch_below rc.out (below_new w9 (.cells #[.slice p3 q2.L.length k3, .bool q2.closed] 28)))
        replace rb := Lib.hid (rio_below rb.out (below_new w9 (.cells #[.slice p3 q2.L.length k3, .bool q2.closed] 28)))
        replace x0 := Lib.hid (blk_below x0.out (below_new w9 (.cells #[.slice p3 q2.L.length k3, .bool q2.closed] 28)))
        replace xw := Lib.hid (blk_below xw.out (below_new w9 (.cells #[.slice p3 q2.L.length k3, .bool q2.closed] 28)))
        replace rv := Lib.hid (rch_below rv.out (below_new w9 (.cells #[.slice p3 q2.L.length k3, .bool q2.closed] 28)))
        replace r1 := Lib.hid (rch_below r1.out (below_new w9 (.cells #[.slice p3 q2.L.length k3, .bool q2.closed] 28)))
        replace x1 := Lib.hid (blk_below x1.out (below_new w9 (.cells #[.slice p3 q2.L.length k3, .bool q2.closed] 28)))
        replace r3 := Lib.hid (rch_below r3.out (below_new w9 (.cells #[.slice p3 q2.L.length k3, .bool q2.closed] 28)))
        replace bq := Lib.hid (below_on bq.out (below_new w9 (.cells #[.slice p3 q2.L.length k3, .bool q2.closed] 28)))
        have x3 := Lib.hid (blk_new w9 #[.slice p3 q2.L.length k3, .bool q2.closed] 28)
        have x0_0 := blk_cell x0.out 0 _ rfl
        have x0_1 := blk_cell x0.out 1 _ rfl
        go_wp2_with fail
        refine (ours16 rc.out).mono ?_
        rintro e w10 ⟨rfl, q10⟩
        clear x0_0 x0_1
        replace rc := Lib.hid (rch_below rc.out q10)
        replace rb := Lib.hid (rio_below rb.out q10)
        replace x0 := Lib.hid (blk_below x0.out q10)
        replace xw := Lib.hid (blk_below xw.out q10)
        replace rv := Lib.hid (rch_below rv.out q10)
        replace r1 := Lib.hid (rch_below r1.out q10)
        replace x1 := Lib.hid (blk_below x1.out q10)
        replace r3 := Lib.hid (rch_below r3.out q10)
        replace x3 := Lib.hid (blk_below x3.out q10)
        replace bq := Lib.hid (below_on bq.out q10)
        clear q10
        go_wp2_with fail
        refine (hclose.out _ _ (rch_dn rc.out)).mono ?_
        rintro e w11 ⟨v5, rfl, r5, q11⟩
        replace rc := Lib.hid (rch_below rc.out q11)
        replace rb := Lib.hid (rio_below rb.out q11)
        replace x0 := Lib.hid (blk_below x0.out q11)
        replace xw := Lib.hid (blk_below xw.out q11)
        replace rv := Lib.hid (rch_below rv.out q11)
        replace r1 := Lib.hid (rch_below r1.out q11)
        replace x1 := Lib.hid (blk_below x1.out q11)
        replace r3 := Lib.hid (rch_below r3.out q11)
        replace x3 := Lib.hid (blk_below x3.out q11)
        replace bq := Lib.hid (below_on bq.out q11)
        obtain ⟨p5, k5, rfl, _⟩ := rch_form r5
        rw [hq3c.out] at r5 ⊢
        replace r5 := Lib.hid r5
        clear q11
        replace rc := Lib.hid (rch_below rc.out (below_new w11 (.cells #[.slice p5 q3.L.length k5, .bool true] 28)))
        replace rb := Lib.hid (rio_below rb.out (below_new w11 (.cells #[.slice p5 q3.L.length k5, .bool true] 28)))
        replace x0 := Lib.hid (blk_below x0.out (below_new w11 (.cells #[.slice p5 q3.L.length k5, .bool true] 28)))
        replace xw := Lib.hid (blk_below xw.out (below_new w11 (.cells #[.slice p5 q3.L.length k5, .bool true] 28)))
        replace rv := Lib.hid (rch_below rv.out (below_new w11 (.cells #[.slice p5 q3.L.length k5, .bool true] 28)))
        replace r1 := Lib.hid (rch_below r1.out (below_new w11 (.cells #[.slice p5 q3.L.length k5, .bool true] 28)))
        replace x1 := Lib.hid (blk_below x1.out (below_new w11 (.cells #[.slice p5 q3.L.length k5, .bool true] 28)))
        replace r3 := Lib.hid (rch_below r3.out (below_new w11 (.cells #[.slice p5 q3.L.length k5, .bool true] 28)))
        replace x3 := Lib.hid (blk_below x3.out (below_new w11 (.cells #[.slice p5 q3.L.length k5, .bool true] 28)))
        replace r5 := Lib.hid (rch_below r5.out (below_new w11 (.cells #[.slice p5 q3.L.length k5, .bool true] 28)))
        replace bq := Lib.hid (below_on bq.out (below_new w11 (.cells #[.slice p5 q3.L.length k5, .bool true] 28)))
        have x5 := Lib.hid (blk_new w11 #[.slice p5 q3.L.length k5, .bool true] 28)
        have x1_0 := blk_cell x1.out 0 _ rfl
        have x1_1 := blk_cell x1.out 1 _ rfl
        have xw_0 := blk_cell xw.out 0 _ rfl
        have xw_1 := blk_cell xw.out 1 _ rfl
        go_wp2_with fail
        refine (lsame_self16 hfA r1.out rv.out).mono ?_
        rintro e w12 ⟨rfl, q12⟩
        clear x1_0 x1_1 xw_0 xw_1
        replace rc := Lib.hid (rch_below rc.out q12)
        replace rb := Lib.hid (rio_below rb.out q12)
        replace x0 := Lib.hid (blk_below x0.out q12)
        replace xw := Lib.hid (blk_below xw.out q12)
        replace rv := Lib.hid (rch_below rv.out q12)
        replace r1 := Lib.hid (rch_below r1.out q12)
        replace x1 := Lib.hid (blk_below x1.out q12)
        replace r3 := Lib.hid (rch_below r3.out q12)
        replace x3 := Lib.hid (blk_below x3.out q12)
        replace r5 := Lib.hid (rch_below r5.out q12)
        replace x5 := Lib.hid (blk_below x5.out q12)
        replace bq := Lib.hid (below_on bq.out q12)
        clear q12
        clear x0 rb rc
        go_upto_region 12 with (fail)
        have H8 := Lib.hid (show _ ∧ _ ∧ _ ∧ _ ∧ _ ∧ _ ∧ _ ∧ _ from ⟨blk_cell x1.out 0 _ rfl, blk_cell x1.out 1 _ rfl, blk_cell x3.out 0 _ rfl, blk_cell x3.out 1 _ rfl, blk_cell x5.out 0 _ rfl, blk_cell x5.out 1 _ rfl, blk_cell xw.out 0 _ rfl, blk_cell xw.out 1 _ rfl⟩)
        clear x1 x3 x5 xw
        refine wp_region_held_drew (S := fun w' => w'.cell? ⟨w7.heap.size, 0, none⟩ = some (.slice p1 A.L.length k1) ∧ w'.cell? ⟨w7.heap.size, 1, none⟩ = some (.bool A.closed) ∧ w'.cell? ⟨w9.heap.size, 0, none⟩ = some (.slice p3 q2.L.length k3) ∧ w'.cell? ⟨w9.heap.size, 1, none⟩ = some (.bool q2.closed) ∧ w'.cell? ⟨w11.heap.size, 0, none⟩ = some (.slice p5 q3.L.length k5) ∧ w'.cell? ⟨w11.heap.size, 1, none⟩ = some (.bool true) ∧ w'.cell? ⟨w3.heap.size, 0, none⟩ = some (.slice p n cap) ∧ w'.cell? ⟨w3.heap.size, 1, none⟩ = some (.bool cl)) (by kernel_rfl) (H8.out) (fun hS => ?_)
        replace rv := Lib.hid (rch_below rv.out (Below.refl _ _).drew)
        replace r1 := Lib.hid (rch_below r1.out (Below.refl _ _).drew)
        replace r3 := Lib.hid (rch_below r3.out (Below.refl _ _).drew)
        replace r5 := Lib.hid (rch_below r5.out (Below.refl _ _).drew)
        replace bq := Lib.hid (below_on bq.out (Below.refl _ _).drew)
        refine' wpAnyH_take (i := 0) (oi := ⟨_, _, _, _, _, _⟩) (v := _) rfl (by kernel_rfl) (by kernel_rfl) (by kernel_rfl) (fun _ _ _ h => h) (Or.inl ⟨by rfl, ?hyc1010⟩) hS ?restc1010
        case hyc1010 => (intro wz hSw; (try dsimp only at hSw); go_simp; try with_reducible rfl)
        try simp only [Act.put, List.setIfInBounds_toArray, List.set_cons_zero, List.set_cons_succ]
        refine' wpAnyH_take (i := 1) (oi := ⟨_, _, _, _, _, _⟩) (v := _) rfl (by kernel_rfl) (by kernel_rfl) (by kernel_rfl) (fun _ _ _ h => h) (Or.inl ⟨by rfl, ?hyc1011⟩) hS ?restc1011
        case hyc1011 => (intro wz hSw; (try dsimp only at hSw); go_simp; try with_reducible rfl)
        try simp only [Act.put, List.setIfInBounds_toArray, List.set_cons_zero, List.set_cons_succ]
        refine' wpAnyH_take (i := 2) (oi := ⟨_, _, _, _, _, _⟩) (v := _) rfl (by kernel_rfl) (by kernel_rfl) (by kernel_rfl) (fun _ _ _ h => h) (Or.inl ⟨by rfl, ?hyc1012⟩) hS ?restc1012
        case hyc1012 => (intro wz hSw; (try dsimp only at hSw); go_simp; try with_reducible rfl)
        try simp only [Act.put, List.setIfInBounds_toArray, List.set_cons_zero, List.set_cons_succ]
        refine wpAnyH_ready (rs := [3]) (by kernel_rfl) (by simp) (AllReadyH.cons rfl (fun K hK => ?_) AllReadyH.nil)
        go_simp
        go_at_call 18
        refine (hsq1.out _ _ r1.out).mono ?_
        rintro e w13 ⟨rfl, q13⟩
        go_wp2_with fail
        refine hK.out _ _ (held8_16 q13 hS) (fun hSn => ?_)
        clear hS
        have hS := hSn
        clear hSn
        clear hK K
        try simp only [Act.put, List.setIfInBounds_toArray, List.set_cons_zero, List.set_cons_succ]
        replace rv := Lib.hid (rch_below rv.out q13)
        replace r1 := Lib.hid (rch_below r1.out q13)
        replace r3 := Lib.hid (rch_below r3.out q13)
        replace r5 := Lib.hid (rch_below r5.out q13)
        replace bq := Lib.hid (below_on bq.out q13)
        clear q13
        refine' wpAnyH_take (i := 4) (oi := ⟨_, _, _, _, _, _⟩) (v := _) rfl (by kernel_rfl) (by kernel_rfl) (by kernel_rfl) (fun _ _ _ h => h) (Or.inl ⟨by rfl, ?hyc1014⟩) hS ?restc1014
        case hyc1014 => (intro wz hSw; (try dsimp only at hSw); go_simp; try with_reducible rfl)
        try simp only [Act.put, List.setIfInBounds_toArray, List.set_cons_zero, List.set_cons_succ]
        refine' wpAnyH_take (i := 5) (oi := ⟨_, _, _, _, _, _⟩) (v := _) rfl (by kernel_rfl) (by kernel_rfl) (by kernel_rfl) (fun _ _ _ h => h) (Or.inl ⟨by rfl, ?hyc1015⟩) hS ?restc1015
        case hyc1015 => (intro wz hSw; (try dsimp only at hSw); go_simp; try with_reducible rfl)
        try simp only [Act.put, List.setIfInBounds_toArray, List.set_cons_zero, List.set_cons_succ]
        refine' wpAnyH_take (i := 6) (oi := ⟨_, _, _, _, _, _⟩) (v := _) rfl (by kernel_rfl) (by kernel_rfl) (by kernel_rfl) (fun _ _ _ h => h) (Or.inl ⟨by rfl, ?hyc1016⟩) hS ?restc1016
        case hyc1016 => (intro wz hSw; (try dsimp only at hSw); go_simp; try with_reducible rfl)
        try simp only [Act.put, List.setIfInBounds_toArray, List.set_cons_zero, List.set_cons_succ]
        refine wpAnyH_ready (rs := [7]) (by kernel_rfl) (by simp) (AllReadyH.cons rfl (fun K hK => ?_) AllReadyH.nil)
        go_simp
        go_at_call 18
        refine (hsq2.out _ _ r3.out).mono ?_
        rintro e w14 ⟨rfl, q14⟩
        go_wp2_with fail
        refine hK.out _ _ (held8_16 q14 hS) (fun hSn => ?_)
        clear hS
        have hS := hSn
        clear hSn
        clear hK K
        try simp only [Act.put, List.setIfInBounds_toArray, List.set_cons_zero, List.set_cons_succ]
        replace rv := Lib.hid (rch_below rv.out q14)
        replace r1 := Lib.hid (rch_below r1.out q14)
        replace r3 := Lib.hid (rch_below r3.out q14)
        replace r5 := Lib.hid (rch_below r5.out q14)
        replace bq := Lib.hid (below_on bq.out q14)
        clear q14
        refine' wpAnyH_take (i := 8) (oi := ⟨_, _, _, _, _, _⟩) (v := _) rfl (by kernel_rfl) (by kernel_rfl) (by kernel_rfl) (fun _ _ _ h => h) (Or.inl ⟨by rfl, ?hyc1018⟩) hS ?restc1018
        case hyc1018 => (intro wz hSw; (try dsimp only at hSw); go_simp; try with_reducible rfl)
        try simp only [Act.put, List.setIfInBounds_toArray, List.set_cons_zero, List.set_cons_succ]
        refine' wpAnyH_take (i := 9) (oi := ⟨_, _, _, _, _, _⟩) (v := _) rfl (by kernel_rfl) (by kernel_rfl) (by kernel_rfl) (fun _ _ _ h => h) (Or.inl ⟨by rfl, ?hyc1019⟩) hS ?restc1019
        case hyc1019 => (intro wz hSw; (try dsimp only at hSw); go_simp; try with_reducible rfl)
        try simp only [Act.put, List.setIfInBounds_toArray, List.set_cons_zero, List.set_cons_succ]
        refine' wpAnyH_take (i := 10) (oi := ⟨_, _, _, _, _, _⟩) (v := _) rfl (by kernel_rfl) (by kernel_rfl) (by kernel_rfl) (fun _ _ _ h => h) (Or.inl ⟨by rfl, ?hyc10110⟩) hS ?restc10110
        case hyc10110 => (intro wz hSw; (try dsimp only at hSw); go_simp; try with_reducible rfl)
        try simp only [Act.put, List.setIfInBounds_toArray, List.set_cons_zero, List.set_cons_succ]
        refine wpAnyH_ready (rs := [11]) (by kernel_rfl) (by simp) (AllReadyH.cons rfl (fun K hK => ?_) AllReadyH.nil)
        go_simp
        go_at_call 18
        refine (hsq3.out _ _ r5.out).mono ?_
        rintro e w15 ⟨rfl, q15⟩
        go_wp2_with fail
        refine hK.out _ _ (held8_16 q15 hS) (fun hSn => ?_)
        clear hS
        have hS := hSn
        clear hSn
        clear hK K
        try simp only [Act.put, List.setIfInBounds_toArray, List.set_cons_zero, List.set_cons_succ]
        replace rv := Lib.hid (rch_below rv.out q15)
        replace r1 := Lib.hid (rch_below r1.out q15)
        replace r3 := Lib.hid (rch_below r3.out q15)
        replace r5 := Lib.hid (rch_below r5.out q15)
        replace bq := Lib.hid (below_on bq.out q15)
        clear q15
        refine' wpAnyH_take (i := 12) (oi := ⟨_, _, _, _, _, _⟩) (v := _) rfl (by kernel_rfl) (by kernel_rfl) (by kernel_rfl) (fun _ _ _ h => h) (Or.inl ⟨by rfl, ?hyc10112⟩) hS ?restc10112
        case hyc10112 => (intro wz hSw; (try dsimp only at hSw); go_simp; try with_reducible rfl)
        try simp only [Act.put, List.setIfInBounds_toArray, List.set_cons_zero, List.set_cons_succ]
        refine' wpAnyH_take (i := 13) (oi := ⟨_, _, _, _, _, _⟩) (v := _) rfl (by kernel_rfl) (by kernel_rfl) (by kernel_rfl) (fun _ _ _ h => h) (Or.inl ⟨by rfl, ?hyc10113⟩) hS ?restc10113
        case hyc10113 => (intro wz hSw; (try dsimp only at hSw); go_simp; try with_reducible rfl)
        try simp only [Act.put, List.setIfInBounds_toArray, List.set_cons_zero, List.set_cons_succ]
        refine' wpAnyH_take (i := 14) (oi := ⟨_, _, _, _, _, _⟩) (v := _) rfl (by kernel_rfl) (by kernel_rfl) (by kernel_rfl) (fun _ _ _ h => h) (Or.inl ⟨by rfl, ?hyc10114⟩) hS ?restc10114
        case hyc10114 => (intro wz hSw; (try dsimp only at hSw); go_simp; try with_reducible rfl)
        try simp only [Act.put, List.setIfInBounds_toArray, List.set_cons_zero, List.set_cons_succ]
        refine' wpAnyH_take (i := 15) (oi := ⟨_, _, _, _, _, _⟩) (v := _) rfl (by kernel_rfl) (by kernel_rfl) (by kernel_rfl) (fun _ _ _ h => h) (Or.inl ⟨by rfl, ?hyc10115⟩) hS ?restc10115
        case hyc10115 => (intro wz hSw; (try dsimp only at hSw); go_simp; try with_reducible rfl)
        try simp only [Act.put, List.setIfInBounds_toArray, List.set_cons_zero, List.set_cons_succ]
        refine' wpAnyH_take (i := 16) (oi := ⟨_, _, _, _, _, _⟩) (v := _) rfl (by kernel_rfl) (by kernel_rfl) (by kernel_rfl) (fun _ _ _ h => h) (Or.inl ⟨by rfl, ?hyc10116⟩) hS ?restc10116
        case hyc10116 => (intro wz hSw; (try dsimp only at hSw); go_simp; try with_reducible rfl)
        try simp only [Act.put, List.setIfInBounds_toArray, List.set_cons_zero, List.set_cons_succ]
        refine' wpAnyH_take (i := 17) (oi := ⟨_, _, _, _, _, _⟩) (v := _) rfl (by kernel_rfl) (by kernel_rfl) (by kernel_rfl) (fun _ _ _ h => h) (Or.inl ⟨by rfl, ?hyc10117⟩) hS ?restc10117
        case hyc10117 => (intro wz hSw; (try dsimp only at hSw); go_simp; try with_reducible rfl)
        try simp only [Act.put, List.setIfInBounds_toArray, List.set_cons_zero, List.set_cons_succ]
        refine' wpAnyH_take (i := 18) (oi := ⟨_, _, _, _, _, _⟩) (v := _) rfl (by kernel_rfl) (by kernel_rfl) (by kernel_rfl) (fun _ _ _ h => h) (Or.inl ⟨by rfl, ?hyc10118⟩) hS ?restc10118
        case hyc10118 => (intro wz hSw; (try dsimp only at hSw); go_simp; try with_reducible rfl)
        try simp only [Act.put, List.setIfInBounds_toArray, List.set_cons_zero, List.set_cons_succ]
        refine' wpAnyH_take (i := 19) (oi := ⟨_, _, _, _, _, _⟩) (v := _) rfl (by kernel_rfl) (by kernel_rfl) (by kernel_rfl) (fun _ _ _ h => h) (Or.inl ⟨by rfl, ?hyc10119⟩) hS ?restc10119
        case hyc10119 => (intro wz hSw; (try dsimp only at hSw); go_simp; try with_reducible rfl)
        try simp only [Act.put, List.setIfInBounds_toArray, List.set_cons_zero, List.set_cons_succ]
        refine' wpAnyH_take (i := 20) (oi := ⟨_, _, _, _, _, _⟩) (v := _) rfl (by kernel_rfl) (by kernel_rfl) (by kernel_rfl) (fun _ _ _ h => h) (Or.inl ⟨by rfl, ?hyc10120⟩) hS ?restc10120
        case hyc10120 => (intro wz hSw; (try dsimp only at hSw); go_simp; try with_reducible rfl)
        try simp only [Act.put, List.setIfInBounds_toArray, List.set_cons_zero, List.set_cons_succ]
        refine' wpAnyH_take (i := 21) (oi := ⟨_, _, _, _, _, _⟩) (v := undef) rfl (by kernel_rfl) (by kernel_rfl) (by kernel_rfl) (fun _ _ _ h => h) (Or.inr ⟨by rfl, rfl⟩) hS ?restc10121
        try simp only [Act.put, List.setIfInBounds_toArray, List.set_cons_zero, List.set_cons_succ]
        refine' wpAnyH_take (i := 22) (oi := ⟨_, _, _, _, _, _⟩) (v := undef) rfl (by kernel_rfl) (by kernel_rfl) (by kernel_rfl) (fun _ _ _ h => h) (Or.inr ⟨by rfl, rfl⟩) hS ?restc10122
        try simp only [Act.put, List.setIfInBounds_toArray, List.set_cons_zero, List.set_cons_succ]
        refine' wpAnyH_take (i := 23) (oi := ⟨_, _, _, _, _, _⟩) (v := undef) rfl (by kernel_rfl) (by kernel_rfl) (by kernel_rfl) (fun _ _ _ h => h) (Or.inr ⟨by rfl, rfl⟩) hS ?restc10123
        try simp only [Act.put, List.setIfInBounds_toArray, List.set_cons_zero, List.set_cons_succ]
        refine' wpAnyH_take (i := 24) (oi := ⟨_, _, _, _, _, _⟩) (v := undef) rfl (by kernel_rfl) (by kernel_rfl) (by kernel_rfl) (fun _ _ _ h => h) (Or.inr ⟨by rfl, rfl⟩) hS ?restc10124
        try simp only [Act.put, List.setIfInBounds_toArray, List.set_cons_zero, List.set_cons_succ]
        refine' wpAnyH_take (i := 25) (oi := ⟨_, _, _, _, _, _⟩) (v := undef) rfl (by kernel_rfl) (by kernel_rfl) (by kernel_rfl) (fun _ _ _ h => h) (Or.inr ⟨by rfl, rfl⟩) hS ?restc10125
        try simp only [Act.put, List.setIfInBounds_toArray, List.set_cons_zero, List.set_cons_succ]
        refine' wpAnyH_take (i := 26) (oi := ⟨_, _, _, _, _, _⟩) (v := undef) rfl (by kernel_rfl) (by kernel_rfl) (by kernel_rfl) (fun _ _ _ h => h) (Or.inr ⟨by rfl, rfl⟩) hS ?restc10126
        try simp only [Act.put, List.setIfInBounds_toArray, List.set_cons_zero, List.set_cons_succ]
        refine' wpAnyH_take (i := 27) (oi := ⟨_, _, _, _, _, _⟩) (v := undef) rfl (by kernel_rfl) (by kernel_rfl) (by kernel_rfl) (fun _ _ _ h => h) (Or.inr ⟨by rfl, rfl⟩) hS ?restc10127
        try simp only [Act.put, List.setIfInBounds_toArray, List.set_cons_zero, List.set_cons_succ]
        refine' wpAnyH_take (i := 28) (oi := ⟨_, _, _, _, _, _⟩) (v := undef) rfl (by kernel_rfl) (by kernel_rfl) (by kernel_rfl) (fun _ _ _ h => h) (Or.inr ⟨by rfl, rfl⟩) hS ?restc10128
        try simp only [Act.put, List.setIfInBounds_toArray, List.set_cons_zero, List.set_cons_succ]
        refine' wpAnyH_take (i := 29) (oi := ⟨_, _, _, _, _, _⟩) (v := undef) rfl (by kernel_rfl) (by kernel_rfl) (by kernel_rfl) (fun _ _ _ h => h) (Or.inr ⟨by rfl, rfl⟩) hS ?restc10129
        try simp only [Act.put, List.setIfInBounds_toArray, List.set_cons_zero, List.set_cons_succ]
        refine' wpAnyH_take (i := 30) (oi := ⟨_, _, _, _, _, _⟩) (v := _) rfl (by kernel_rfl) (by kernel_rfl) (by kernel_rfl) (fun _ _ _ h => h) (Or.inl ⟨by rfl, ?hyc10130⟩) hS ?restc10130
        case hyc10130 => (intro wz hSw; (try dsimp only at hSw); go_simp; try with_reducible rfl)
        try simp only [Act.put, List.setIfInBounds_toArray, List.set_cons_zero, List.set_cons_succ]
        refine' wpAnyH_take (i := 31) (oi := ⟨_, _, _, _, _, _⟩) (v := _) rfl (by kernel_rfl) (by kernel_rfl) (by kernel_rfl) (fun _ _ _ h => h) (Or.inl ⟨by rfl, ?hyc10131⟩) hS ?restc10131
        case hyc10131 => (intro wz hSw; (try dsimp only at hSw); go_simp; try with_reducible rfl)
        try simp only [Act.put, List.setIfInBounds_toArray, List.set_cons_zero, List.set_cons_succ]
        refine' wpAnyH_take (i := 32) (oi := ⟨_, _, _, _, _, _⟩) (v := _) rfl (by kernel_rfl) (by kernel_rfl) (by kernel_rfl) (fun _ _ _ h => h) (Or.inl ⟨by rfl, ?hyc10132⟩) hS ?restc10132
        case hyc10132 => (intro wz hSw; (try dsimp only at hSw); go_simp; try with_reducible rfl)
        try simp only [Act.put, List.setIfInBounds_toArray, List.set_cons_zero, List.set_cons_succ]
        refine' wpAnyH_take (i := 33) (oi := ⟨_, _, _, _, _, _⟩) (v := _) rfl (by kernel_rfl) (by kernel_rfl) (by kernel_rfl) (fun _ _ _ h => h) (Or.inl ⟨by rfl, ?hyc10133⟩) hS ?restc10133
        case hyc10133 => (intro wz hSw; (try dsimp only at hSw); go_simp; try with_reducible rfl)
        try simp only [Act.put, List.setIfInBounds_toArray, List.set_cons_zero, List.set_cons_succ]
        refine' wpAnyH_take (i := 34) (oi := ⟨_, _, _, _, _, _⟩) (v := _) rfl (by kernel_rfl) (by kernel_rfl) (by kernel_rfl) (fun _ _ _ h => h) (Or.inl ⟨by rfl, ?hyc10134⟩) hS ?restc10134
        case hyc10134 => (intro wz hSw; (try dsimp only at hSw); go_simp; try with_reducible rfl)
        try simp only [Act.put, List.setIfInBounds_toArray, List.set_cons_zero, List.set_cons_succ]
        refine' wpAnyH_take (i := 35) (oi := ⟨_, _, _, _, _, _⟩) (v := _) rfl (by kernel_rfl) (by kernel_rfl) (by kernel_rfl) (fun _ _ _ h => h) (Or.inl ⟨by rfl, ?hyc10135⟩) hS ?restc10135
        case hyc10135 => (intro wz hSw; (try dsimp only at hSw); go_simp; try with_reducible rfl)
        try simp only [Act.put, List.setIfInBounds_toArray, List.set_cons_zero, List.set_cons_succ]
        refine' wpAnyH_take (i := 36) (oi := ⟨_, _, _, _, _, _⟩) (v := _) rfl (by kernel_rfl) (by kernel_rfl) (by kernel_rfl) (fun _ _ _ h => h) (Or.inl ⟨by rfl, ?hyc10136⟩) hS ?restc10136
        case hyc10136 => (intro wz hSw; (try dsimp only at hSw); go_simp; try with_reducible rfl)
        try simp only [Act.put, List.setIfInBounds_toArray, List.set_cons_zero, List.set_cons_succ]
        refine' wpAnyH_take (i := 37) (oi := ⟨_, _, _, _, _, _⟩) (v := _) rfl (by kernel_rfl) (by kernel_rfl) (by kernel_rfl) (fun _ _ _ h => h) (Or.inl ⟨by rfl, ?hyc10137⟩) hS ?restc10137
        case hyc10137 => (intro wz hSw; (try dsimp only at hSw); go_simp; try with_reducible rfl)
        try simp only [Act.put, List.setIfInBounds_toArray, List.set_cons_zero, List.set_cons_succ]
        refine' wpAnyH_take (i := 38) (oi := ⟨_, _, _, _, _, _⟩) (v := _) rfl (by kernel_rfl) (by kernel_rfl) (by kernel_rfl) (fun _ _ _ h => h) (Or.inl ⟨by rfl, ?hyc10138⟩) hS ?restc10138
        case hyc10138 => (intro wz hSw; (try dsimp only at hSw); go_simp; try with_reducible rfl)
        try simp only [Act.put, List.setIfInBounds_toArray, List.set_cons_zero, List.set_cons_succ]
        refine' wpAnyH_take (i := 39) (oi := ⟨_, _, _, _, _, _⟩) (v := _) rfl (by kernel_rfl) (by kernel_rfl) (by kernel_rfl) (fun _ _ _ h => h) (Or.inl ⟨by rfl, ?hyc10139⟩) hS ?restc10139
        case hyc10139 => (intro wz hSw; (try dsimp only at hSw); go_simp; try with_reducible rfl)
        try simp only [Act.put, List.setIfInBounds_toArray, List.set_cons_zero, List.set_cons_succ]
        refine' wpAnyH_take (i := 40) (oi := ⟨_, _, _, _, _, _⟩) (v := _) rfl (by kernel_rfl) (by kernel_rfl) (by kernel_rfl) (fun _ _ _ h => h) (Or.inl ⟨by rfl, ?hyc10140⟩) hS ?restc10140
        case hyc10140 => (intro wz hSw; (try dsimp only at hSw); go_simp; try with_reducible rfl)
        try simp only [Act.put, List.setIfInBounds_toArray, List.set_cons_zero, List.set_cons_succ]
        refine wpAnyH_done (by kernel_rfl) ?_ _
        clear hS
        go_simp
        go_wp2_with fail
        go_ret
        exact ⟨rfl, bq.out⟩
      · have hc1 := hcnt rfl
        have hwr : IntKind.i64.wrap ((NA : Int) + (b.length : Int)) = (NA : Int) + (b.length : Int) := (by rw [IntKind.wrap_i64]; omega)
        obtain ⟨e2, hL⟩ := htn rfl
        rw [e2] at htake hsq2
        have hL0 : A.L.length = 0 := by rw [hL]; rfl
        have hA := Lib.hid (show A = c from by rw [hAS]; rfl)
        clear e2 hL
        have hln := hAn rfl
        rw [hln] at hL0
        subst hL0
        clear hAS hpn htn hty hcnt hAn hA2 hln
        go_enter Try.func7, Try.ntmps7
        replace rc := Lib.hid (rch_below rc.out (below_new w (.cells #[.slice p 0 cap, .bool cl] 24)))
        replace rb := Lib.hid (rio_below rb.out (below_new w (.cells #[.slice p 0 cap, .bool cl] 24)))
        replace bq := Lib.hid (below_on bq.out (below_new w (.cells #[.slice p 0 cap, .bool cl] 24)))
        have x0 := Lib.hid (blk_new w #[.slice p 0 cap, .bool cl] 24)
        go_wp2_with fail
        refine (hawake.out _).mono ?_
        rintro e w2 ⟨rfl, q2⟩
        replace rc := Lib.hid (rch_below rc.out q2)
        replace rb := Lib.hid (rio_below rb.out q2)
        replace x0 := Lib.hid (blk_below x0.out q2)
        replace bq := Lib.hid (below_on bq.out q2)
        clear q2
        have x0_0 := blk_cell x0.out 0 _ rfl
        have x0_1 := blk_cell x0.out 1 _ rfl
        go_wp2_with fail
        refine (rfew16 (Up N0 w) _ c w2 rc.out hmax).mono ?_
        rintro e w3 ⟨rfl, q3⟩
        clear x0_0 x0_1
        replace rc := Lib.hid (rch_below rc.out q3)
        replace rb := Lib.hid (rio_below rb.out q3)
        replace x0 := Lib.hid (blk_below x0.out q3)
        replace bq := Lib.hid (below_on bq.out q3)
        rw [hfew.out]
        clear q3
        have l0 := blk_lt x0.out
        have x0_0 := blk_cell x0.out 0 _ rfl
        have x0_1 := blk_cell x0.out 1 _ rfl
        replace rc := Lib.hid (rch_below rc.out (below_new w3 (.cells #[.slice p 0 cap, .bool cl] 24)))
        replace rb := Lib.hid (rio_below rb.out (below_new w3 (.cells #[.slice p 0 cap, .bool cl] 24)))
        replace x0 := Lib.hid (blk_below x0.out (below_new w3 (.cells #[.slice p 0 cap, .bool cl] 24)))
        replace bq := Lib.hid (below_on bq.out (below_new w3 (.cells #[.slice p 0 cap, .bool cl] 24)))
        have xw := Lib.hid (blk_new w3 #[.slice p 0 cap, .bool cl] 24)
        have x0_0 := blk_cell x0.out 0 _ rfl
        have x0_1 := blk_cell x0.out 1 _ rfl
        go_wp2_with fail
        refine (ours16 rc.out).mono ?_
        rintro e w4 ⟨rfl, q4⟩
        clear x0_0 x0_1
        replace rc := Lib.hid (rch_below rc.out q4)
        replace rb := Lib.hid (rio_below rb.out q4)
        replace x0 := Lib.hid (blk_below x0.out q4)
        replace xw := Lib.hid (blk_below xw.out q4)
        replace bq := Lib.hid (below_on bq.out q4)
        clear q4
        go_wp2_with fail
        refine (hsane.out _ _ rc.out).mono ?_
        rintro e w5 ⟨rfl, q5⟩
        replace rc := Lib.hid (rch_below rc.out q5)
        replace rb := Lib.hid (rio_below rb.out q5)
        replace x0 := Lib.hid (blk_below x0.out q5)
        replace xw := Lib.hid (blk_below xw.out q5)
        replace bq := Lib.hid (below_on bq.out q5)
        clear q5
        have rv := Lib.hid (show RCh N0 w5 (.agg #[.slice p 0 cap, .bool cl]) A by rw [hA.out]; exact (rch_dn rc.out))
        have x0_0 := blk_cell x0.out 0 _ rfl
        have x0_1 := blk_cell x0.out 1 _ rfl
        go_wp2_with fail
        refine (ours16 rc.out).mono ?_
        rintro e w6 ⟨rfl, q6⟩
        clear x0_0 x0_1
        replace rc := Lib.hid (rch_below rc.out q6)
        replace rb := Lib.hid (rio_below rb.out q6)
        replace x0 := Lib.hid (blk_below x0.out q6)
        replace xw := Lib.hid (blk_below xw.out q6)
        replace rv := Lib.hid (rch_below rv.out q6)
        replace bq := Lib.hid (below_on bq.out q6)
        clear q6
        go_wp2_with fail
        refine (hput.out _ _ _ (rch_dn rc.out) (rio_dn rb.out)).mono ?_
        rintro e w7 ⟨v1, rfl, r1, q7⟩
        replace rc := Lib.hid (rch_below rc.out q7)
        replace rb := Lib.hid (rio_below rb.out q7)
        replace x0 := Lib.hid (blk_below x0.out q7)
        replace xw := Lib.hid (blk_below xw.out q7)
        replace rv := Lib.hid (rch_below rv.out q7)
        replace bq := Lib.hid (below_on bq.out q7)
        obtain ⟨p1, k1, rfl, _⟩ := rch_form r1
        replace r1 := Lib.hid r1
        clear q7
        replace rc := Lib.hid (rch_below rc.out (below_new w7 (.cells #[.slice p1 q1.L.length k1, .bool q1.closed] 28)))
        replace rb := Lib.hid (rio_below rb.out (below_new w7 (.cells #[.slice p1 q1.L.length k1, .bool q1.closed] 28)))
        replace x0 := Lib.hid (blk_below x0.out (below_new w7 (.cells #[.slice p1 q1.L.length k1, .bool q1.closed] 28)))
        replace xw := Lib.hid (blk_below xw.out (below_new w7 (.cells #[.slice p1 q1.L.length k1, .bool q1.closed] 28)))
        replace rv := Lib.hid (rch_below rv.out (below_new w7 (.cells #[.slice p1 q1.L.length k1, .bool q1.closed] 28)))
        replace r1 := Lib.hid (rch_below r1.out (below_new w7 (.cells #[.slice p1 q1.L.length k1, .bool q1.closed] 28)))
        replace bq := Lib.hid (below_on bq.out (below_new w7 (.cells #[.slice p1 q1.L.length k1, .bool q1.closed] 28)))
        have x1 := Lib.hid (blk_new w7 #[.slice p1 q1.L.length k1, .bool q1.closed] 28)
        have x0_0 := blk_cell x0.out 0 _ rfl
        have x0_1 := blk_cell x0.out 1 _ rfl
        go_wp2_with fail
        refine (ours16 rc.out).mono ?_
        rintro e w8 ⟨rfl, q8⟩
        clear x0_0 x0_1
        replace rc := Lib.hid (rch_below rc.out q8)
        replace rb := Lib.hid (rio_below rb.out q8)
        replace x0 := Lib.hid (blk_below x0.out q8)
        replace xw := Lib.hid (blk_below xw.out q8)
        replace rv := Lib.hid (rch_below rv.out q8)
        replace r1 := Lib.hid (rch_below r1.out q8)
        replace x1 := Lib.hid (blk_below x1.out q8)
        replace bq := Lib.hid (below_on bq.out q8)
        clear q8
        go_wp2_with fail
        refine (htake.out _ _ (rch_dn rc.out)).mono ?_
        rintro e w9 ⟨v3, u3, rfl, r3, s3, q9⟩
        replace rc := Lib.hid (rch_below rc.out q9)
        replace rb := Lib.hid (rio_below rb.out q9)
        replace x0 := Lib.hid (blk_below x0.out q9)
        replace xw := Lib.hid (blk_below xw.out q9)
        replace rv := Lib.hid (rch_below rv.out q9)
        replace r1 := Lib.hid (rch_below r1.out q9)
        replace x1 := Lib.hid (blk_below x1.out q9)
        replace bq := Lib.hid (below_on bq.out q9)
        obtain ⟨p3, k3, rfl, _⟩ := rch_form r3
        replace r3 := Lib.hid r3
        obtain ⟨a3, d3, rfl⟩ := ri_form s3.1
        clear s3
        clear q9
        replace rc := Lib.hid (rch_below rc.out (below_new w9 (.cells #[.slice p3 A.L.length k3, .bool A.closed] 28)))
        replace rb := Lib.hid (rio_below rb.out (below_new w9 (.cells #[.slice p3 A.L.length k3, .bool A.closed] 28)))
        replace x0 := Lib.hid (blk_below x0.out (below_new w9 (.cells #[.slice p3 A.L.length k3, .bool A.closed] 28)))
        replace xw := Lib.hid (blk_below xw.out (below_new w9 (.cells #[.slice p3 A.L.length k3, .bool A.closed] 28)))
        replace rv := Lib.hid (rch_below rv.out (below_new w9 (.cells #[.slice p3 A.L.length k3, .bool A.closed] 28)))
        replace r1 := Lib.hid (rch_below r1.out (below_new w9 (.cells #[.slice p3 A.L.length k3, .bool A.closed] 28)))
        replace x1 := Lib.hid (blk_below x1.out (below_new w9 (.cells #[.slice p3 A.L.length k3, .bool A.closed] 28)))
        replace r3 := Lib.hid (rch_below r3.out (below_new w9 (.cells #[.slice p3 A.L.length k3, .bool A.closed] 28)))
        replace bq := Lib.hid (below_on bq.out (below_new w9 (.cells #[.slice p3 A.L.length k3, .bool A.closed] 28)))
        have x3 := Lib.hid (blk_new w9 #[.slice p3 A.L.length k3, .bool A.closed] 28)
        have x0_0 := blk_cell x0.out 0 _ rfl
        have x0_1 := blk_cell x0.out 1 _ rfl
        go_wp2_with fail
        refine (ours16 rc.out).mono ?_
        rintro e w10 ⟨rfl, q10⟩
        clear x0_0 x0_1
        replace rc := Lib.hid (rch_below rc.out q10)
        replace rb := Lib.hid (rio_below rb.out q10)
        replace x0 := Lib.hid (blk_below x0.out q10)
        replace xw := Lib.hid (blk_below xw.out q10)
        replace rv := Lib.hid (rch_below rv.out q10)
        replace r1 := Lib.hid (rch_below r1.out q10)
        replace x1 := Lib.hid (blk_below x1.out q10)
        replace r3 := Lib.hid (rch_below r3.out q10)
        replace x3 := Lib.hid (blk_below x3.out q10)
        replace bq := Lib.hid (below_on bq.out q10)
        clear q10
        go_wp2_with fail
        refine (hclose.out _ _ (rch_dn rc.out)).mono ?_
        rintro e w11 ⟨v5, rfl, r5, q11⟩
        replace rc := Lib.hid (rch_below rc.out q11)
        replace rb := Lib.hid (rio_below rb.out q11)
        replace x0 := Lib.hid (blk_below x0.out q11)
        replace xw := Lib.hid (blk_below xw.out q11)
        replace rv := Lib.hid (rch_below rv.out q11)
        replace r1 := Lib.hid (rch_below r1.out q11)
        replace x1 := Lib.hid (blk_below x1.out q11)
        replace r3 := Lib.hid (rch_below r3.out q11)
        replace x3 := Lib.hid (blk_below x3.out q11)
        replace bq := Lib.hid (below_on bq.out q11)
        obtain ⟨p5, k5, rfl, _⟩ := rch_form r5
        rw [hq3c.out] at r5 ⊢
        replace r5 := Lib.hid r5
        clear q11
        replace rc := Lib.hid (rch_below rc.out (below_new w11 (.cells #[.slice p5 q3.L.length k5, .bool true] 28)))
        replace rb := Lib.hid (rio_below rb.out (below_new w11 (.cells #[.slice p5 q3.L.length k5, .bool true] 28)))
        replace x0 := Lib.hid (blk_below x0.out (below_new w11 (.cells #[.slice p5 q3.L.length k5, .bool true] 28)))
        replace xw := Lib.hid (blk_below xw.out (below_new w11 (.cells #[.slice p5 q3.L.length k5, .bool true] 28)))
        replace rv := Lib.hid (rch_below rv.out (below_new w11 (.cells #[.slice p5 q3.L.length k5, .bool true] 28)))
        replace r1 := Lib.hid (rch_below r1.out (below_new w11 (.cells #[.slice p5 q3.L.length k5, .bool true] 28)))
        replace x1 := Lib.hid (blk_below x1.out (below_new w11 (.cells #[.slice p5 q3.L.length k5, .bool true] 28)))
        replace r3 := Lib.hid (rch_below r3.out (below_new w11 (.cells #[.slice p5 q3.L.length k5, .bool true] 28)))
        replace x3 := Lib.hid (blk_below x3.out (below_new w11 (.cells #[.slice p5 q3.L.length k5, .bool true] 28)))
        replace r5 := Lib.hid (rch_below r5.out (below_new w11 (.cells #[.slice p5 q3.L.length k5, .bool true] 28)))
        replace bq := Lib.hid (below_on bq.out (below_new w11 (.cells #[.slice p5 q3.L.length k5, .bool true] 28)))
        have x5 := Lib.hid (blk_new w11 #[.slice p5 q3.L.length k5, .bool true] 28)
        have x3_0 := blk_cell x3.out 0 _ rfl
        have x3_1 := blk_cell x3.out 1 _ rfl
        have xw_0 := blk_cell xw.out 0 _ rfl
        have xw_1 := blk_cell xw.out 1 _ rfl
        go_wp2_with fail
        refine (lsame_self16 hfA r3.out rv.out).mono ?_
        rintro e w12 ⟨rfl, q12⟩
        clear x3_0 x3_1 xw_0 xw_1
        replace rc := Lib.hid (rch_below rc.out q12)
        replace rb := Lib.hid (rio_below rb.out q12)
        replace x0 := Lib.hid (blk_below x0.out q12)
        replace xw := Lib.hid (blk_below xw.out q12)
        replace rv := Lib.hid (rch_below rv.out q12)
        replace r1 := Lib.hid (rch_below r1.out q12)
        replace x1 := Lib.hid (blk_below x1.out q12)
        replace r3 := Lib.hid (rch_below r3.out q12)
        replace x3 := Lib.hid (blk_below x3.out q12)
        replace r5 := Lib.hid (rch_below r5.out q12)
        replace x5 := Lib.hid (blk_below x5.out q12)
        replace bq := Lib.hid (below_on bq.out q12)
        clear q12
        clear x0 rb rc
        go_upto_region 12 with (fail)
        have H8 := Lib.hid (show _ ∧ _ ∧ _ ∧ _ ∧ _ ∧ _ ∧ _ ∧ _ from ⟨blk_cell x1.out 0 _ rfl, blk_cell x1.out 1 _ rfl, blk_cell x3.out 0 _ rfl, blk_cell x3.out 1 _ rfl, blk_cell x5.out 0 _ rfl, blk_cell x5.out 1 _ rfl, blk_cell xw.out 0 _ rfl, blk_cell xw.out 1 _ rfl⟩)
        clear x1 x3 x5 xw
        refine wp_region_held_drew (S := fun w' => w'.cell? ⟨w7.heap.size, 0, none⟩ = some (.slice p1 q1.L.length k1) ∧ w'.cell? ⟨w7.heap.size, 1, none⟩ = some (.bool q1.closed) ∧ w'.cell? ⟨w9.heap.size, 0, none⟩ = some (.slice p3 A.L.length k3) ∧ w'.cell? ⟨w9.heap.size, 1, none⟩ = some (.bool A.closed) ∧ w'.cell? ⟨w11.heap.size, 0, none⟩ = some (.slice p5 q3.L.length k5) ∧ w'.cell? ⟨w11.heap.size, 1, none⟩ = some (.bool true) ∧ w'.cell? ⟨w3.heap.size, 0, none⟩ = some (.slice p 0 cap) ∧ w'.cell? ⟨w3.heap.size, 1, none⟩ = some (.bool cl)) (by kernel_rfl) (H8.out) (fun hS => ?_)
        replace rv := Lib.hid (rch_below rv.out (Below.refl _ _).drew)
        replace r1 := Lib.hid (rch_below r1.out (Below.refl _ _).drew)
        replace r3 := Lib.hid (rch_below r3.out (Below.refl _ _).drew)
        replace r5 := Lib.hid (rch_below r5.out (Below.refl _ _).drew)
        replace bq := Lib.hid (below_on bq.out (Below.refl _ _).drew)
        refine' wpAnyH_take (i := 0) (oi := ⟨_, _, _, _, _, _⟩) (v := _) rfl (by kernel_rfl) (by kernel_rfl) (by kernel_rfl) (fun _ _ _ h => h) (Or.inl ⟨by rfl, ?hyc1100⟩) hS ?restc1100
        case hyc1100 => (intro wz hSw; (try dsimp only at hSw); go_simp; try with_reducible rfl)
        try simp only [Act.put, List.setIfInBounds_toArray, List.set_cons_zero, List.set_cons_succ]
        refine' wpAnyH_take (i := 1) (oi := ⟨_, _, _, _, _, _⟩) (v := _) rfl (by kernel_rfl) (by kernel_rfl) (by kernel_rfl) (fun _ _ _ h => h) (Or.inl ⟨by rfl, ?hyc1101⟩) hS ?restc1101
        case hyc1101 => (intro wz hSw; (try dsimp only at hSw); go_simp; try with_reducible rfl)
        try simp only [Act.put, List.setIfInBounds_toArray, List.set_cons_zero, List.set_cons_succ]
        refine' wpAnyH_take (i := 2) (oi := ⟨_, _, _, _, _, _⟩) (v := _) rfl (by kernel_rfl) (by kernel_rfl) (by kernel_rfl) (fun _ _ _ h => h) (Or.inl ⟨by rfl, ?hyc1102⟩) hS ?restc1102
        case hyc1102 => (intro wz hSw; (try dsimp only at hSw); go_simp; try with_reducible rfl)
        try simp only [Act.put, List.setIfInBounds_toArray, List.set_cons_zero, List.set_cons_succ]
        refine wpAnyH_ready (rs := [3]) (by kernel_rfl) (by simp) (AllReadyH.cons rfl (fun K hK => ?_) AllReadyH.nil)
        go_simp
        go_at_call 18
        refine (hsq1.out _ _ r1.out).mono ?_
        rintro e w13 ⟨rfl, q13⟩
        go_wp2_with fail
        refine hK.out _ _ (held8_16 q13 hS) (fun hSn => ?_)
        clear hS
        have hS := hSn
        clear hSn
        clear hK K
        try simp only [Act.put, List.setIfInBounds_toArray, List.set_cons_zero, List.set_cons_succ]
        replace rv := Lib.hid (rch_below rv.out q13)
        replace r1 := Lib.hid (rch_below r1.out q13)
        replace r3 := Lib.hid (rch_below r3.out q13)
        replace r5 := Lib.hid (rch_below r5.out q13)
        replace bq := Lib.hid (below_on bq.out q13)
        clear q13
        refine' wpAnyH_take (i := 4) (oi := ⟨_, _, _, _, _, _⟩) (v := _) rfl (by kernel_rfl) (by kernel_rfl) (by kernel_rfl) (fun _ _ _ h => h) (Or.inl ⟨by rfl, ?hyc1104⟩) hS ?restc1104
        case hyc1104 => (intro wz hSw; (try dsimp only at hSw); go_simp; try with_reducible rfl)
        try simp only [Act.put, List.setIfInBounds_toArray, List.set_cons_zero, List.set_cons_succ]
        refine' wpAnyH_take (i := 5) (oi := ⟨_, _, _, _, _, _⟩) (v := _) rfl (by kernel_rfl) (by kernel_rfl) (by kernel_rfl) (fun _ _ _ h => h) (Or.inl ⟨by rfl, ?hyc1105⟩) hS ?restc1105
        case hyc1105 => (intro wz hSw; (try dsimp only at hSw); go_simp; try with_reducible rfl)
        try simp only [Act.put, List.setIfInBounds_toArray, List.set_cons_zero, List.set_cons_succ]
        refine' wpAnyH_take (i := 6) (oi := ⟨_, _, _, _, _, _⟩) (v := _) rfl (by kernel_rfl) (by kernel_rfl) (by kernel_rfl) (fun _ _ _ h => h) (Or.inl ⟨by rfl, ?hyc1106⟩) hS ?restc1106
        case hyc1106 => (intro wz hSw; (try dsimp only at hSw); go_simp; try with_reducible rfl)
        try simp only [Act.put, List.setIfInBounds_toArray, List.set_cons_zero, List.set_cons_succ]
        refine wpAnyH_ready (rs := [7]) (by kernel_rfl) (by simp) (AllReadyH.cons rfl (fun K hK => ?_) AllReadyH.nil)
        go_simp
        go_at_call 18
        refine (hsq2.out _ _ r3.out).mono ?_
        rintro e w14 ⟨rfl, q14⟩
        go_wp2_with fail
        refine hK.out _ _ (held8_16 q14 hS) (fun hSn => ?_)
        clear hS
        have hS := hSn
        clear hSn
        clear hK K
        try simp only [Act.put, List.setIfInBounds_toArray, List.set_cons_zero, List.set_cons_succ]
        replace rv := Lib.hid (rch_below rv.out q14)
        replace r1 := Lib.hid (rch_below r1.out q14)
        replace r3 := Lib.hid (rch_below r3.out q14)
        replace r5 := Lib.hid (rch_below r5.out q14)
        replace bq := Lib.hid (below_on bq.out q14)
        clear q14
        refine' wpAnyH_take (i := 8) (oi := ⟨_, _, _, _, _, _⟩) (v := _) rfl (by kernel_rfl) (by kernel_rfl) (by kernel_rfl) (fun _ _ _ h => h) (Or.inl ⟨by rfl, ?hyc1108⟩) hS ?restc1108
        case hyc1108 => (intro wz hSw; (try dsimp only at hSw); go_simp; try with_reducible rfl)
        try simp only [Act.put, List.setIfInBounds_toArray, List.set_cons_zero, List.set_cons_succ]
        refine' wpAnyH_take (i := 9) (oi := ⟨_, _, _, _, _, _⟩) (v := _) rfl (by kernel_rfl) (by kernel_rfl) (by kernel_rfl) (fun _ _ _ h => h) (Or.inl ⟨by rfl, ?hyc1109⟩) hS ?restc1109
        case hyc1109 => (intro wz hSw; (try dsimp only at hSw); go_simp; try with_reducible rfl)
        try simp only [Act.put, List.setIfInBounds_toArray, List.set_cons_zero, List.set_cons_succ]
        refine' wpAnyH_take (i := 10) (oi := ⟨_, _, _, _, _, _⟩) (v := _) rfl (by kernel_rfl) (by kernel_rfl) (by kernel_rfl) (fun _ _ _ h => h) (Or.inl ⟨by rfl, ?hyc11010⟩) hS ?restc11010
        case hyc11010 => (intro wz hSw; (try dsimp only at hSw); go_simp; try with_reducible rfl)
        try simp only [Act.put, List.setIfInBounds_toArray, List.set_cons_zero, List.set_cons_succ]
        refine wpAnyH_ready (rs := [11]) (by kernel_rfl) (by simp) (AllReadyH.cons rfl (fun K hK => ?_) AllReadyH.nil)
        go_simp
        go_at_call 18
        refine (hsq3.out _ _ r5.out).mono ?_
        rintro e w15 ⟨rfl, q15⟩
        go_wp2_with fail
        refine hK.out _ _ (held8_16 q15 hS) (fun hSn => ?_)
        clear hS
        have hS := hSn
        clear hSn
        clear hK K
        try simp only [Act.put, List.setIfInBounds_toArray, List.set_cons_zero, List.set_cons_succ]
        replace rv := Lib.hid (rch_below rv.out q15)
        replace r1 := Lib.hid (rch_below r1.out q15)
        replace r3 := Lib.hid (rch_below r3.out q15)
        replace r5 := Lib.hid (rch_below r5.out q15)
        replace bq := Lib.hid (below_on bq.out q15)
        clear q15
        refine' wpAnyH_take (i := 12) (oi := ⟨_, _, _, _, _, _⟩) (v := _) rfl (by kernel_rfl) (by kernel_rfl) (by kernel_rfl) (fun _ _ _ h => h) (Or.inl ⟨by rfl, ?hyc11012⟩) hS ?restc11012
        case hyc11012 => (intro wz hSw; (try dsimp only at hSw); go_simp; try with_reducible rfl)
        try simp only [Act.put, List.setIfInBounds_toArray, List.set_cons_zero, List.set_cons_succ]
        refine' wpAnyH_take (i := 13) (oi := ⟨_, _, _, _, _, _⟩) (v := _) rfl (by kernel_rfl) (by kernel_rfl) (by kernel_rfl) (fun _ _ _ h => h) (Or.inl ⟨by rfl, ?hyc11013⟩) hS ?restc11013
        case hyc11013 => (intro wz hSw; (try dsimp only at hSw); go_simp; try with_reducible rfl)
        try simp only [Act.put, List.setIfInBounds_toArray, List.set_cons_zero, List.set_cons_succ]
        refine' wpAnyH_take (i := 14) (oi := ⟨_, _, _, _, _, _⟩) (v := _) rfl (by kernel_rfl) (by kernel_rfl) (by kernel_rfl) (fun _ _ _ h => h) (Or.inl ⟨by rfl, ?hyc11014⟩) hS ?restc11014
        case hyc11014 => (intro wz hSw; (try dsimp only at hSw); go_simp; try with_reducible rfl)
        try simp only [Act.put, List.setIfInBounds_toArray, List.set_cons_zero, List.set_cons_succ]
        refine' wpAnyH_take (i := 15) (oi := ⟨_, _, _, _, _, _⟩) (v := _) rfl (by kernel_rfl) (by kernel_rfl) (by kernel_rfl) (fun _ _ _ h => h) (Or.inl ⟨by rfl, ?hyc11015⟩) hS ?restc11015
        case hyc11015 => (intro wz hSw; (try dsimp only at hSw); go_simp; try with_reducible rfl)
        try simp only [Act.put, List.setIfInBounds_toArray, List.set_cons_zero, List.set_cons_succ]
        refine' wpAnyH_take (i := 16) (oi := ⟨_, _, _, _, _, _⟩) (v := _) rfl (by kernel_rfl) (by kernel_rfl) (by kernel_rfl) (fun _ _ _ h => h) (Or.inl ⟨by rfl, ?hyc11016⟩) hS ?restc11016
        case hyc11016 => (intro wz hSw; (try dsimp only at hSw); go_simp; try with_reducible rfl)
        try simp only [Act.put, List.setIfInBounds_toArray, List.set_cons_zero, List.set_cons_succ]
        refine' wpAnyH_take (i := 17) (oi := ⟨_, _, _, _, _, _⟩) (v := _) rfl (by kernel_rfl) (by kernel_rfl) (by kernel_rfl) (fun _ _ _ h => h) (Or.inl ⟨by rfl, ?hyc11017⟩) hS ?restc11017
        case hyc11017 => (intro wz hSw; (try dsimp only at hSw); go_simp; try with_reducible rfl)
        try simp only [Act.put, List.setIfInBounds_toArray, List.set_cons_zero, List.set_cons_succ]
        refine' wpAnyH_take (i := 18) (oi := ⟨_, _, _, _, _, _⟩) (v := _) rfl (by kernel_rfl) (by kernel_rfl) (by kernel_rfl) (fun _ _ _ h => h) (Or.inl ⟨by rfl, ?hyc11018⟩) hS ?restc11018
        case hyc11018 => (intro wz hSw; (try dsimp only at hSw); go_simp; try with_reducible rfl)
        try simp only [Act.put, List.setIfInBounds_toArray, List.set_cons_zero, List.set_cons_succ]
        refine' wpAnyH_take (i := 19) (oi := ⟨_, _, _, _, _, _⟩) (v := _) rfl (by kernel_rfl) (by kernel_rfl) (by kernel_rfl) (fun _ _ _ h => h) (Or.inl ⟨by rfl, ?hyc11019⟩) hS ?restc11019
        case hyc11019 => (intro wz hSw; (try dsimp only at hSw); go_simp; try with_reducible rfl)
        try simp only [Act.put, List.setIfInBounds_toArray, List.set_cons_zero, List.set_cons_succ]
        refine' wpAnyH_take (i := 20) (oi := ⟨_, _, _, _, _, _⟩) (v := _) rfl (by kernel_rfl) (by kernel_rfl) (by kernel_rfl) (fun _ _ _ h => h) (Or.inl ⟨by rfl, ?hyc11020⟩) hS ?restc11020
        case hyc11020 => (intro wz hSw; (try dsimp only at hSw); go_simp; try with_reducible rfl)
        try simp only [Act.put, List.setIfInBounds_toArray, List.set_cons_zero, List.set_cons_succ]
        refine' wpAnyH_take (i := 21) (oi := ⟨_, _, _, _, _, _⟩) (v := _) rfl (by kernel_rfl) (by kernel_rfl) (by kernel_rfl) (fun _ _ _ h => h) (Or.inl ⟨by rfl, ?hyc11021⟩) hS ?restc11021
        case hyc11021 => (intro wz hSw; (try dsimp only at hSw); go_simp; try with_reducible rfl)
        try simp only [Act.put, List.setIfInBounds_toArray, List.set_cons_zero, List.set_cons_succ]
        refine' wpAnyH_take (i := 23) (oi := ⟨_, _, _, _, _, _⟩) (v := _) rfl (by kernel_rfl) (by kernel_rfl) (by kernel_rfl) (fun _ _ _ h => h) (Or.inl ⟨by rfl, ?hyc11023⟩) hS ?restc11023
        case hyc11023 => (intro wz hSw; (try dsimp only at hSw); go_simp; try with_reducible rfl)
        try simp only [Act.put, List.setIfInBounds_toArray, List.set_cons_zero, List.set_cons_succ]
        refine' wpAnyH_take (i := 26) (oi := ⟨_, _, _, _, _, _⟩) (v := _) rfl (by kernel_rfl) (by kernel_rfl) (by kernel_rfl) (fun _ _ _ h => h) (Or.inl ⟨by rfl, ?hyc11026⟩) hS ?restc11026
        case hyc11026 => (intro wz hSw; (try dsimp only at hSw); go_simp; try with_reducible rfl)
        try simp only [Act.put, List.setIfInBounds_toArray, List.set_cons_zero, List.set_cons_succ]
        refine' wpAnyH_take (i := 27) (oi := ⟨_, _, _, _, _, _⟩) (v := _) rfl (by kernel_rfl) (by kernel_rfl) (by kernel_rfl) (fun _ _ _ h => h) (Or.inl ⟨by rfl, ?hyc11027⟩) hS ?restc11027
        case hyc11027 => (intro wz hSw; (try dsimp only at hSw); go_simp; try with_reducible rfl)
        try simp only [Act.put, List.setIfInBounds_toArray, List.set_cons_zero, List.set_cons_succ]
        refine wpAnyH_ready (rs := [22]) (by kernel_rfl) (by simp) (AllReadyH.cons rfl (fun K hK => ?_) AllReadyH.nil)
        go_simp
        go_at_call 24
        refine (hcq1.out _ _ r1.out).mono ?_
        rintro e w16 ⟨rfl, q16⟩
        go_wp2_with fail
        refine hK.out _ _ (held8_16 q16 hS) (fun hSn => ?_)
        clear hS
        have hS := hSn
        clear hSn
        clear hK K
        try simp only [Act.put, List.setIfInBounds_toArray, List.set_cons_zero, List.set_cons_succ]
        replace rv := Lib.hid (rch_below rv.out q16)
        replace r1 := Lib.hid (rch_below r1.out q16)
        replace r3 := Lib.hid (rch_below r3.out q16)
        replace r5 := Lib.hid (rch_below r5.out q16)
        replace bq := Lib.hid (below_on bq.out q16)
        clear q16
        refine wpAnyH_ready (rs := [24]) (by kernel_rfl) (by simp) (AllReadyH.cons rfl (fun K hK => ?_) AllReadyH.nil)
        go_simp
        go_at_call 12
        refine (ours16 rv.out).mono ?_
        rintro e w17 ⟨rfl, q17⟩
        go_wp2_with fail
        refine hK.out _ _ (held8_16 q17 hS) (fun hSn => ?_)
        clear hS
        have hS := hSn
        clear hSn
        clear hK K
        try simp only [Act.put, List.setIfInBounds_toArray, List.set_cons_zero, List.set_cons_succ]
        replace rv := Lib.hid (rch_below rv.out q17)
        replace r1 := Lib.hid (rch_below r1.out q17)
        replace r3 := Lib.hid (rch_below r3.out q17)
        replace r5 := Lib.hid (rch_below r5.out q17)
        replace bq := Lib.hid (below_on bq.out q17)
        clear q17
        refine wpAnyH_ready (rs := [25]) (by kernel_rfl) (by simp) (AllReadyH.cons rfl (fun K hK => ?_) AllReadyH.nil)
        go_simp
        go_at_call 24
        refine (hcA.out _ _ rv.out).mono ?_
        rintro e w18 ⟨rfl, q18⟩
        go_wp2_with fail
        refine hK.out _ _ (held8_16 q18 hS) (fun hSn => ?_)
        clear hS
        have hS := hSn
        clear hSn
        clear hK K
        try simp only [Act.put, List.setIfInBounds_toArray, List.set_cons_zero, List.set_cons_succ]
        replace rv := Lib.hid (rch_below rv.out q18)
        replace r1 := Lib.hid (rch_below r1.out q18)
        replace r3 := Lib.hid (rch_below r3.out q18)
        replace r5 := Lib.hid (rch_below r5.out q18)
        replace bq := Lib.hid (below_on bq.out q18)
        clear q18
        refine' wpAnyH_take (i := 28) (oi := ⟨_, _, _, _, _, _⟩) (v := _) rfl (by kernel_rfl) (by kernel_rfl) (by kernel_rfl) (fun _ _ _ h => h) (Or.inl ⟨by rfl, ?hyc11028⟩) hS ?restc11028
        case hyc11028 => (intro wz hSw; (try dsimp only at hSw); go_simp; try with_reducible rfl)
        try simp only [Act.put, List.setIfInBounds_toArray, List.set_cons_zero, List.set_cons_succ]
        refine' wpAnyH_take (i := 29) (oi := ⟨_, _, _, _, _, _⟩) (v := _) rfl (by kernel_rfl) (by kernel_rfl) (by kernel_rfl) (fun _ _ _ h => h) (Or.inl ⟨by rfl, ?hyc11029⟩) hS ?restc11029
        case hyc11029 => (intro wz hSw; (try dsimp only at hSw); go_simp; try with_reducible rfl)
        try simp only [Act.put, List.setIfInBounds_toArray, List.set_cons_zero, List.set_cons_succ]
        refine' wpAnyH_take (i := 30) (oi := ⟨_, _, _, _, _, _⟩) (v := _) rfl (by kernel_rfl) (by kernel_rfl) (by kernel_rfl) (fun _ _ _ h => h) (Or.inl ⟨by rfl, ?hyc11030⟩) hS ?restc11030
        case hyc11030 => (intro wz hSw; (try dsimp only at hSw); go_simp; try with_reducible rfl)
        try simp only [Act.put, List.setIfInBounds_toArray, List.set_cons_zero, List.set_cons_succ]
        refine' wpAnyH_take (i := 31) (oi := ⟨_, _, _, _, _, _⟩) (v := _) rfl (by kernel_rfl) (by kernel_rfl) (by kernel_rfl) (fun _ _ _ h => h) (Or.inl ⟨by rfl, ?hyc11031⟩) hS ?restc11031
        case hyc11031 => (intro wz hSw; (try dsimp only at hSw); go_simp; try with_reducible rfl)
        try simp only [Act.put, List.setIfInBounds_toArray, List.set_cons_zero, List.set_cons_succ]
        refine' wpAnyH_take (i := 32) (oi := ⟨_, _, _, _, _, _⟩) (v := _) rfl (by kernel_rfl) (by kernel_rfl) (by kernel_rfl) (fun _ _ _ h => h) (Or.inl ⟨by rfl, ?hyc11032⟩) hS ?restc11032
        case hyc11032 => (intro wz hSw; (try dsimp only at hSw); go_simp; try with_reducible rfl)
        try simp only [Act.put, List.setIfInBounds_toArray, List.set_cons_zero, List.set_cons_succ]
        refine' wpAnyH_take (i := 33) (oi := ⟨_, _, _, _, _, _⟩) (v := _) rfl (by kernel_rfl) (by kernel_rfl) (by kernel_rfl) (fun _ _ _ h => h) (Or.inl ⟨by rfl, ?hyc11033⟩) hS ?restc11033
        case hyc11033 => (intro wz hSw; (try dsimp only at hSw); go_simp; try with_reducible rfl)
        try simp only [Act.put, List.setIfInBounds_toArray, List.set_cons_zero, List.set_cons_succ]
        refine' wpAnyH_take (i := 34) (oi := ⟨_, _, _, _, _, _⟩) (v := _) rfl (by kernel_rfl) (by kernel_rfl) (by kernel_rfl) (fun _ _ _ h => h) (Or.inl ⟨by rfl, ?hyc11034⟩) hS ?restc11034
        case hyc11034 => (intro wz hSw; (try dsimp only at hSw); go_simp; try with_reducible rfl)
        try simp only [Act.put, List.setIfInBounds_toArray, List.set_cons_zero, List.set_cons_succ]
        refine' wpAnyH_take (i := 35) (oi := ⟨_, _, _, _, _, _⟩) (v := _) rfl (by kernel_rfl) (by kernel_rfl) (by kernel_rfl) (fun _ _ _ h => h) (Or.inl ⟨by rfl, ?hyc11035⟩) hS ?restc11035
        case hyc11035 => (intro wz hSw; (try dsimp only at hSw); go_simp; try with_reducible rfl)
        try simp only [Act.put, List.setIfInBounds_toArray, List.set_cons_zero, List.set_cons_succ]
        refine' wpAnyH_take (i := 36) (oi := ⟨_, _, _, _, _, _⟩) (v := _) rfl (by kernel_rfl) (by kernel_rfl) (by kernel_rfl) (fun _ _ _ h => h) (Or.inl ⟨by rfl, ?hyc11036⟩) hS ?restc11036
        case hyc11036 => (intro wz hSw; (try dsimp only at hSw); go_simp; try with_reducible rfl)
        try simp only [Act.put, List.setIfInBounds_toArray, List.set_cons_zero, List.set_cons_succ]
        refine' wpAnyH_take (i := 37) (oi := ⟨_, _, _, _, _, _⟩) (v := _) rfl (by kernel_rfl) (by kernel_rfl) (by kernel_rfl) (fun _ _ _ h => h) (Or.inl ⟨by rfl, ?hyc11037⟩) hS ?restc11037
        case hyc11037 => (intro wz hSw; (try dsimp only at hSw); go_simp; try with_reducible rfl)
        try simp only [Act.put, List.setIfInBounds_toArray, List.set_cons_zero, List.set_cons_succ]
        refine' wpAnyH_take (i := 38) (oi := ⟨_, _, _, _, _, _⟩) (v := _) rfl (by kernel_rfl) (by kernel_rfl) (by kernel_rfl) (fun _ _ _ h => h) (Or.inl ⟨by rfl, ?hyc11038⟩) hS ?restc11038
        case hyc11038 => (intro wz hSw; (try dsimp only at hSw); go_simp; try with_reducible rfl)
        try simp only [Act.put, List.setIfInBounds_toArray, List.set_cons_zero, List.set_cons_succ]
        refine' wpAnyH_take (i := 39) (oi := ⟨_, _, _, _, _, _⟩) (v := _) rfl (by kernel_rfl) (by kernel_rfl) (by kernel_rfl) (fun _ _ _ h => h) (Or.inl ⟨by rfl, ?hyc11039⟩) hS ?restc11039
        case hyc11039 => (intro wz hSw; (try dsimp only at hSw); go_simp; try with_reducible rfl)
        try simp only [Act.put, List.setIfInBounds_toArray, List.set_cons_zero, List.set_cons_succ]
        refine' wpAnyH_take (i := 40) (oi := ⟨_, _, _, _, _, _⟩) (v := _) rfl (by kernel_rfl) (by kernel_rfl) (by kernel_rfl) (fun _ _ _ h => h) (Or.inl ⟨by rfl, ?hyc11040⟩) hS ?restc11040
        case hyc11040 => (intro wz hSw; (try dsimp only at hSw); go_simp; try with_reducible rfl)
        try simp only [Act.put, List.setIfInBounds_toArray, List.set_cons_zero, List.set_cons_succ]
        refine wpAnyH_done (by kernel_rfl) ?_ _
        clear hS
        go_simp
        go_wp2_with fail
        go_ret
        exact ⟨rfl, bq.out⟩
      · have hc1 := hcnt rfl
        have hwr : IntKind.i64.wrap ((NA : Int) + (b.length : Int)) = (NA : Int) + (b.length : Int) := (by rw [IntKind.wrap_i64]; omega)
        have hL0 : 0 < A.L.length := List.length_pos_iff.2 (hty rfl)
        have hA := Lib.hid (show A = c from by rw [hAS]; rfl)
        have hln := hAn rfl
        rw [hln] at hL0
        clear hAS hpn htn hty hcnt hAn hA2 hln
        go_enter Try.func7, Try.ntmps7
        replace rc := Lib.hid (rch_below rc.out (below_new w (.cells #[.slice p n cap, .bool cl] 24)))
        replace rb := Lib.hid (rio_below rb.out (below_new w (.cells #[.slice p n cap, .bool cl] 24)))
        replace bq := Lib.hid (below_on bq.out (below_new w (.cells #[.slice p n cap, .bool cl] 24)))
        have x0 := Lib.hid (blk_new w #[.slice p n cap, .bool cl] 24)
        go_wp2_with fail
        refine (hawake.out _).mono ?_
        rintro e w2 ⟨rfl, q2⟩
        replace rc := Lib.hid (rch_below rc.out q2)
        replace rb := Lib.hid (rio_below rb.out q2)
        replace x0 := Lib.hid (blk_below x0.out q2)
        replace bq := Lib.hid (below_on bq.out q2)
        clear q2
        have x0_0 := blk_cell x0.out 0 _ rfl
        have x0_1 := blk_cell x0.out 1 _ rfl
        go_wp2_with fail
        refine (rfew16 (Up N0 w) _ c w2 rc.out hmax).mono ?_
        rintro e w3 ⟨rfl, q3⟩
        clear x0_0 x0_1
        replace rc := Lib.hid (rch_below rc.out q3)
        replace rb := Lib.hid (rio_below rb.out q3)
        replace x0 := Lib.hid (blk_below x0.out q3)
        replace bq := Lib.hid (below_on bq.out q3)
        rw [hfew.out]
        clear q3
        have l0 := blk_lt x0.out
        have x0_0 := blk_cell x0.out 0 _ rfl
        have x0_1 := blk_cell x0.out 1 _ rfl
        replace rc := Lib.hid (rch_below rc.out (below_new w3 (.cells #[.slice p n cap, .bool cl] 24)))
        replace rb := Lib.hid (rio_below rb.out (below_new w3 (.cells #[.slice p n cap, .bool cl] 24)))
        replace x0 := Lib.hid (blk_below x0.out (below_new w3 (.cells #[.slice p n cap, .bool cl] 24)))
        replace bq := Lib.hid (below_on bq.out (below_new w3 (.cells #[.slice p n cap, .bool cl] 24)))
        have xw := Lib.hid (blk_new w3 #[.slice p n cap, .bool cl] 24)
        have x0_0 := blk_cell x0.out 0 _ rfl
        have x0_1 := blk_cell x0.out 1 _ rfl
        go_wp2_with fail
        refine (ours16 rc.out).mono ?_
        rintro e w4 ⟨rfl, q4⟩
        clear x0_0 x0_1
        replace rc := Lib.hid (rch_below rc.out q4)
        replace rb := Lib.hid (rio_below rb.out q4)
        replace x0 := Lib.hid (blk_below x0.out q4)
        replace xw := Lib.hid (blk_below xw.out q4)
        replace bq := Lib.hid (below_on bq.out q4)
        clear q4
        go_wp2_with fail
        refine (hsane.out _ _ rc.out).mono ?_
        rintro e w5 ⟨rfl, q5⟩
        replace rc := Lib.hid (rch_below rc.out q5)
        replace rb := Lib.hid (rio_below rb.out q5)
        replace x0 := Lib.hid (blk_below x0.out q5)
        replace xw := Lib.hid (blk_below xw.out q5)
        replace bq := Lib.hid (below_on bq.out q5)
        clear q5
        have rv := Lib.hid (show RCh N0 w5 (.agg #[.slice p n cap, .bool cl]) A by rw [hA.out]; exact (rch_dn rc.out))
        have x0_0 := blk_cell x0.out 0 _ rfl
        have x0_1 := blk_cell x0.out 1 _ rfl
        go_wp2_with fail
        refine (ours16 rc.out).mono ?_
        rintro e w6 ⟨rfl, q6⟩
        clear x0_0 x0_1
        replace rc := Lib.hid (rch_below rc.out q6)
        replace rb := Lib.hid (rio_below rb.out q6)
        replace x0 := Lib.hid (blk_below x0.out q6)
        replace xw := Lib.hid (blk_below xw.out q6)
        replace rv := Lib.hid (rch_below rv.out q6)
        replace bq := Lib.hid (below_on bq.out q6)
        clear q6
        go_wp2_with fail
        refine (hput.out _ _ _ (rch_dn rc.out) (rio_dn rb.out)).mono ?_
        rintro e w7 ⟨v1, rfl, r1, q7⟩
        replace rc := Lib.hid (rch_below rc.out q7)
        replace rb := Lib.hid (rio_below rb.out q7)
        replace x0 := Lib.hid (blk_below x0.out q7)
        replace xw := Lib.hid (blk_below xw.out q7)
        replace rv := Lib.hid (rch_below rv.out q7)
        replace bq := Lib.hid (below_on bq.out q7)
        obtain ⟨p1, k1, rfl, _⟩ := rch_form r1
        replace r1 := Lib.hid r1
        clear q7
        replace rc := Lib.hid (rch_below rc.out (below_new w7 (.cells #[.slice p1 q1.L.length k1, .bool q1.closed] 28)))
        replace rb := Lib.hid (rio_below rb.out (below_new w7 (.cells #[.slice p1 q1.L.length k1, .bool q1.closed] 28)))
        replace x0 := Lib.hid (blk_below x0.out (below_new w7 (.cells #[.slice p1 q1.L.length k1, .bool q1.closed] 28)))
        replace xw := Lib.hid (blk_below xw.out (below_new w7 (.cells #[.slice p1 q1.L.length k1, .bool q1.closed] 28)))
        replace rv := Lib.hid (rch_below rv.out (below_new w7 (.cells #[.slice p1 q1.L.length k1, .bool q1.closed] 28)))
        replace r1 := Lib.hid (rch_below r1.out (below_new w7 (.cells #[.slice p1 q1.L.length k1, .bool q1.closed] 28)))
        replace bq := Lib.hid (below_on bq.out (below_new w7 (.cells #[.slice p1 q1.L.length k1, .bool q1.closed] 28)))
        have x1 := Lib.hid (blk_new w7 #[.slice p1 q1.L.length k1, .bool q1.closed] 28)
        have x0_0 := blk_cell x0.out 0 _ rfl
        have x0_1 := blk_cell x0.out 1 _ rfl
        go_wp2_with fail
        refine (ours16 rc.out).mono ?_
        rintro e w8 ⟨rfl, q8⟩
        clear x0_0 x0_1
        replace rc := Lib.hid (rch_below rc.out q8)
        replace rb := Lib.hid (rio_below rb.out q8)
        replace x0 := Lib.hid (blk_below x0.out q8)
        replace xw := Lib.hid (blk_below xw.out q8)
        replace rv := Lib.hid (rch_below rv.out q8)
        replace r1 := Lib.hid (rch_below r1.out q8)
        replace x1 := Lib.hid (blk_below x1.out q8)
        replace bq := Lib.hid (below_on bq.out q8)
        clear q8
        go_wp2_with fail
        refine (htake.out _ _ (rch_dn rc.out)).mono ?_
        rintro e w9 ⟨v3, u3, rfl, r3, s3, q9⟩
        replace rc := Lib.hid (rch_below rc.out q9)
        replace rb := Lib.hid (rio_below rb.out q9)
        replace x0 := Lib.hid (blk_below x0.out q9)
        replace xw := Lib.hid (blk_below xw.out q9)
        replace rv := Lib.hid (rch_below rv.out q9)
        replace r1 := Lib.hid (rch_below r1.out q9)
        replace x1 := Lib.hid (blk_below x1.out q9)
        replace bq := Lib.hid (below_on bq.out q9)
        obtain ⟨p3, k3, rfl, _⟩ := rch_form r3
        replace r3 := Lib.hid r3
        obtain ⟨a3, d3, rfl⟩ := ri_form s3.1
        clear s3
        clear q9
        replace rc := Lib.hid (rch_below rc.out (below_new w9 (.cells #[.slice p3 q2.L.length k3, .bool q2.closed] 28)))
        replace rb := Lib.hid (rio_below rb.out (below_new w9 (.cells #[.slice p3 q2.L.length k3, .bool q2.closed] 28)))
        replace x0 := Lib.hid (blk_below x0.out (below_new w9 (.cells #[.slice p3 q2.L.length k3, .bool q2.closed] 28)))
        replace xw := Lib.hid (blk_below xw.out (below_new w9 (.cells #[.slice p3 q2.L.length k3, .bool q2.closed] 28)))
        replace rv := Lib.hid (rch_below rv.out (below_new w9 (.cells #[.slice p3 q2.L.length k3, .bool q2.closed] 28)))
        replace r1 := Lib.hid (rch_below r1.out (below_new w9 (.cells #[.slice p3 q2.L.length k3, .bool q2.closed] 28)))
        replace x1 := Lib.hid (blk_below x1.out (below_new w9 (.cells #[.slice p3 q2.L.length k3, .bool q2.closed] 28)))
        replace r3 := Lib.hid (rch_below r3.out (below_new w9 (.cells #[.slice p3 q2.L.length k3, .bool q2.closed] 28)))
        replace bq := Lib.hid (below_on bq.out (below_new w9 (.cells #[.slice p3 q2.L.length k3, .bool q2.closed] 28)))
        have x3 := Lib.hid (blk_new w9 #[.slice p3 q2.L.length k3, .bool q2.closed] 28)
        have x0_0 := blk_cell x0.out 0 _ rfl
        have x0_1 := blk_cell x0.out 1 _ rfl
        go_wp2_with fail
        refine (ours16 rc.out).mono ?_
        rintro e w10 ⟨rfl, q10⟩
        clear x0_0 x0_1
        replace rc := Lib.hid (rch_below rc.out q10)
        replace rb := Lib.hid (rio_below rb.out q10)
        replace x0 := Lib.hid (blk_below x0.out q10)
        replace xw := Lib.hid (blk_below xw.out q10)
        replace rv := Lib.hid (rch_below rv.out q10)
        replace r1 := Lib.hid (rch_below r1.out q10)
        replace x1 := Lib.hid (blk_below x1.out q10)
        replace r3 := Lib.hid (rch_below r3.out q10)
        replace x3 := Lib.hid (blk_below x3.out q10)
        replace bq := Lib.hid (below_on bq.out q10)
        clear q10
        go_wp2_with fail
        refine (hclose.out _ _ (rch_dn rc.out)).mono ?_
        rintro e w11 ⟨v5, rfl, r5, q11⟩
        replace rc := Lib.hid (rch_below rc.out q11)
        replace rb := Lib.hid (rio_below rb.out q11)
        replace x0 := Lib.hid (blk_below x0.out q11)
        replace xw := Lib.hid (blk_below xw.out q11)
        replace rv := Lib.hid (rch_below rv.out q11)
        replace r1 := Lib.hid (rch_below r1.out q11)
        replace x1 := Lib.hid (blk_below x1.out q11)
        replace r3 := Lib.hid (rch_below r3.out q11)
        replace x3 := Lib.hid (blk_below x3.out q11)
        replace bq := Lib.hid (below_on bq.out q11)
        obtain ⟨p5, k5, rfl, _⟩ := rch_form r5
        rw [hq3c.out] at r5 ⊢
        replace r5 := Lib.hid r5
        clear q11
        replace rc := Lib.hid (rch_below rc.out (below_new w11 (.cells #[.slice p5 q3.L.length k5, .bool true] 28)))
        replace rb := Lib.hid (rio_below rb.out (below_new w11 (.cells #[.slice p5 q3.L.length k5, .bool true] 28)))
        replace x0 := Lib.hid (blk_below x0.out (below_new w11 (.cells #[.slice p5 q3.L.length k5, .bool true] 28)))
        replace xw := Lib.hid (blk_below xw.out (below_new w11 (.cells #[.slice p5 q3.L.length k5, .bool true] 28)))
        replace rv := Lib.hid (rch_below rv.out (below_new w11 (.cells #[.slice p5 q3.L.length k5, .bool true] 28)))
        replace r1 := Lib.hid (rch_below r1.out (below_new w11 (.cells #[.slice p5 q3.L.length k5, .bool true] 28)))
        replace x1 := Lib.hid (blk_below x1.out (below_new w11 (.cells #[.slice p5 q3.L.length k5, .bool true] 28)))
        replace r3 := Lib.hid (rch_below r3.out (below_new w11 (.cells #[.slice p5 q3.L.length k5, .bool true] 28)))
        replace x3 := Lib.hid (blk_below x3.out (below_new w11 (.cells #[.slice p5 q3.L.length k5, .bool true] 28)))
        replace r5 := Lib.hid (rch_below r5.out (below_new w11 (.cells #[.slice p5 q3.L.length k5, .bool true] 28)))
        replace bq := Lib.hid (below_on bq.out (below_new w11 (.cells #[.slice p5 q3.L.length k5, .bool true] 28)))
        have x5 := Lib.hid (blk_new w11 #[.slice p5 q3.L.length k5, .bool true] 28)
        clear x0 rb rc
        go_upto_region 12 with (fail)
        have H8 := Lib.hid (show _ ∧ _ ∧ _ ∧ _ ∧ _ ∧ _ ∧ _ ∧ _ from ⟨blk_cell x1.out 0 _ rfl, blk_cell x1.out 1 _ rfl, blk_cell x3.out 0 _ rfl, blk_cell x3.out 1 _ rfl, blk_cell x5.out 0 _ rfl, blk_cell x5.out 1 _ rfl, blk_cell xw.out 0 _ rfl, blk_cell xw.out 1 _ rfl⟩)
        clear x1 x3 x5 xw
        refine wp_region_held_drew (S := fun w' => w'.cell? ⟨w7.heap.size, 0, none⟩ = some (.slice p1 q1.L.length k1) ∧ w'.cell? ⟨w7.heap.size, 1, none⟩ = some (.bool q1.closed) ∧ w'.cell? ⟨w9.heap.size, 0, none⟩ = some (.slice p3 q2.L.length k3) ∧ w'.cell? ⟨w9.heap.size, 1, none⟩ = some (.bool q2.closed) ∧ w'.cell? ⟨w11.heap.size, 0, none⟩ = some (.slice p5 q3.L.length k5) ∧ w'.cell? ⟨w11.heap.size, 1, none⟩ = some (.bool true) ∧ w'.cell? ⟨w3.heap.size, 0, none⟩ = some (.slice p n cap) ∧ w'.cell? ⟨w3.heap.size, 1, none⟩ = some (.bool cl)) (by kernel_rfl) (H8.out) (fun hS => ?_)
        replace rv := Lib.hid (rch_below rv.out (Below.refl _ _).drew)
        replace r1 := Lib.hid (rch_below r1.out (Below.refl _ _).drew)
        replace r3 := Lib.hid (rch_below r3.out (Below.refl _ _).drew)
        replace r5 := Lib.hid (rch_below r5.out (Below.refl _ _).drew)
        replace bq := Lib.hid (below_on bq.out (Below.refl _ _).drew)
        refine' wpAnyH_take (i := 0) (oi := ⟨_, _, _, _, _, _⟩) (v := _) rfl (by kernel_rfl) (by kernel_rfl) (by kernel_rfl) (fun _ _ _ h => h) (Or.inl ⟨by rfl, ?hyc1110⟩) hS ?restc1110
        case hyc1110 => (intro wz hSw; (try dsimp only at hSw); go_simp; try with_reducible rfl)
        try simp only [Act.put, List.setIfInBounds_toArray, List.set_cons_zero, List.set_cons_succ]
        refine' wpAnyH_take (i := 1) (oi := ⟨_, _, _, _, _, _⟩) (v := _) rfl (by kernel_rfl) (by kernel_rfl) (by kernel_rfl) (fun _ _ _ h => h) (Or.inl ⟨by rfl, ?hyc1111⟩) hS ?restc1111
        case hyc1111 => (intro wz hSw; (try dsimp only at hSw); go_simp; try with_reducible rfl)
        try simp only [Act.put, List.setIfInBounds_toArray, List.set_cons_zero, List.set_cons_succ]
        refine' wpAnyH_take (i := 2) (oi := ⟨_, _, _, _, _, _⟩) (v := _) rfl (by kernel_rfl) (by kernel_rfl) (by kernel_rfl) (fun _ _ _ h => h) (Or.inl ⟨by rfl, ?hyc1112⟩) hS ?restc1112
        case hyc1112 => (intro wz hSw; (try dsimp only at hSw); go_simp; try with_reducible rfl)
        try simp only [Act.put, List.setIfInBounds_toArray, List.set_cons_zero, List.set_cons_succ]
        refine wpAnyH_ready (rs := [3]) (by kernel_rfl) (by simp) (AllReadyH.cons rfl (fun K hK => ?_) AllReadyH.nil)
        go_simp
        go_at_call 18
        refine (hsq1.out _ _ r1.out).mono ?_
        rintro e w12 ⟨rfl, q12⟩
        go_wp2_with fail
        refine hK.out _ _ (held8_16 q12 hS) (fun hSn => ?_)
        clear hS
        have hS := hSn
        clear hSn
        clear hK K
        try simp only [Act.put, List.setIfInBounds_toArray, List.set_cons_zero, List.set_cons_succ]
        replace rv := Lib.hid (rch_below rv.out q12)
        replace r1 := Lib.hid (rch_below r1.out q12)
        replace r3 := Lib.hid (rch_below r3.out q12)
        replace r5 := Lib.hid (rch_below r5.out q12)
        replace bq := Lib.hid (below_on bq.out q12)
        clear q12
        refine' wpAnyH_take (i := 4) (oi := ⟨_, _, _, _, _, _⟩) (v := _) rfl (by kernel_rfl) (by kernel_rfl) (by kernel_rfl) (fun _ _ _ h => h) (Or.inl ⟨by rfl, ?hyc1114⟩) hS ?restc1114
        case hyc1114 => (intro wz hSw; (try dsimp only at hSw); go_simp; try with_reducible rfl)
        try simp only [Act.put, List.setIfInBounds_toArray, List.set_cons_zero, List.set_cons_succ]
        refine' wpAnyH_take (i := 5) (oi := ⟨_, _, _, _, _, _⟩) (v := _) rfl (by kernel_rfl) (by kernel_rfl) (by kernel_rfl) (fun _ _ _ h => h) (Or.inl ⟨by rfl, ?hyc1115⟩) hS ?restc1115
        case hyc1115 => (intro wz hSw; (try dsimp only at hSw); go_simp; try with_reducible rfl)
        try simp only [Act.put, List.setIfInBounds_toArray, List.set_cons_zero, List.set_cons_succ]
        refine' wpAnyH_take (i := 6) (oi := ⟨_, _, _, _, _, _⟩) (v := _) rfl (by kernel_rfl) (by kernel_rfl) (by kernel_rfl) (fun _ _ _ h => h) (Or.inl ⟨by rfl, ?hyc1116⟩) hS ?restc1116
        case hyc1116 => (intro wz hSw; (try dsimp only at hSw); go_simp; try with_reducible rfl)
        try simp only [Act.put, List.setIfInBounds_toArray, List.set_cons_zero, List.set_cons_succ]
        refine wpAnyH_ready (rs := [7]) (by kernel_rfl) (by simp) (AllReadyH.cons rfl (fun K hK => ?_) AllReadyH.nil)
        go_simp
        go_at_call 18
        refine (hsq2.out _ _ r3.out).mono ?_
        rintro e w13 ⟨rfl, q13⟩
        go_wp2_with fail
        refine hK.out _ _ (held8_16 q13 hS) (fun hSn => ?_)
        clear hS
        have hS := hSn
        clear hSn
        clear hK K
        try simp only [Act.put, List.setIfInBounds_toArray, List.set_cons_zero, List.set_cons_succ]
        replace rv := Lib.hid (rch_below rv.out q13)
        replace r1 := Lib.hid (rch_below r1.out q13)
        replace r3 := Lib.hid (rch_below r3.out q13)
        replace r5 := Lib.hid (rch_below r5.out q13)
        replace bq := Lib.hid (below_on bq.out q13)
        clear q13
        refine' wpAnyH_take (i := 8) (oi := ⟨_, _, _, _, _, _⟩) (v := _) rfl (by kernel_rfl) (by kernel_rfl) (by kernel_rfl) (fun _ _ _ h => h) (Or.inl ⟨by rfl, ?hyc1118⟩) hS ?restc1118
        case hyc1118 => (intro wz hSw; (try dsimp only at hSw); go_simp; try with_reducible rfl)
        try simp only [Act.put, List.setIfInBounds_toArray, List.set_cons_zero, List.set_cons_succ]
        refine' wpAnyH_take (i := 9) (oi := ⟨_, _, _, _, _, _⟩) (v := _) rfl (by kernel_rfl) (by kernel_rfl) (by kernel_rfl) (fun _ _ _ h => h) (Or.inl ⟨by rfl, ?hyc1119⟩) hS ?restc1119
        case hyc1119 => (intro wz hSw; (try dsimp only at hSw); go_simp; try with_reducible rfl)
        try simp only [Act.put, List.setIfInBounds_toArray, List.set_cons_zero, List.set_cons_succ]
        refine' wpAnyH_take (i := 10) (oi := ⟨_, _, _, _, _, _⟩) (v := _) rfl (by kernel_rfl) (by kernel_rfl) (by kernel_rfl) (fun _ _ _ h => h) (Or.inl ⟨by rfl, ?hyc11110⟩) hS ?restc11110
        case hyc11110 => (intro wz hSw; (try dsimp only at hSw); go_simp; try with_reducible rfl)
        try simp only [Act.put, List.setIfInBounds_toArray, List.set_cons_zero, List.set_cons_succ]
        refine wpAnyH_ready (rs := [11]) (by kernel_rfl) (by simp) (AllReadyH.cons rfl (fun K hK => ?_) AllReadyH.nil)
        go_simp
        go_at_call 18
        refine (hsq3.out _ _ r5.out).mono ?_
        rintro e w14 ⟨rfl, q14⟩
        go_wp2_with fail
        refine hK.out _ _ (held8_16 q14 hS) (fun hSn => ?_)
        clear hS
        have hS := hSn
        clear hSn
        clear hK K
        try simp only [Act.put, List.setIfInBounds_toArray, List.set_cons_zero, List.set_cons_succ]
        replace rv := Lib.hid (rch_below rv.out q14)
        replace r1 := Lib.hid (rch_below r1.out q14)
        replace r3 := Lib.hid (rch_below r3.out q14)
        replace r5 := Lib.hid (rch_below r5.out q14)
        replace bq := Lib.hid (below_on bq.out q14)
        clear q14
        refine' wpAnyH_take (i := 12) (oi := ⟨_, _, _, _, _, _⟩) (v := _) rfl (by kernel_rfl) (by kernel_rfl) (by kernel_rfl) (fun _ _ _ h => h) (Or.inl ⟨by rfl, ?hyc11112⟩) hS ?restc11112
        case hyc11112 => (intro wz hSw; (try dsimp only at hSw); go_simp; try with_reducible rfl)
        try simp only [Act.put, List.setIfInBounds_toArray, List.set_cons_zero, List.set_cons_succ]
        refine' wpAnyH_take (i := 13) (oi := ⟨_, _, _, _, _, _⟩) (v := _) rfl (by kernel_rfl) (by kernel_rfl) (by kernel_rfl) (fun _ _ _ h => h) (Or.inl ⟨by rfl, ?hyc11113⟩) hS ?restc11113
        case hyc11113 => (intro wz hSw; (try dsimp only at hSw); go_simp; try with_reducible rfl)
        try simp only [Act.put, List.setIfInBounds_toArray, List.set_cons_zero, List.set_cons_succ]
        refine' wpAnyH_take (i := 14) (oi := ⟨_, _, _, _, _, _⟩) (v := _) rfl (by kernel_rfl) (by kernel_rfl) (by kernel_rfl) (fun _ _ _ h => h) (Or.inl ⟨by rfl, ?hyc11114⟩) hS ?restc11114
        case hyc11114 => (intro wz hSw; (try dsimp only at hSw); go_simp; try with_reducible rfl)
        try simp only [Act.put, List.setIfInBounds_toArray, List.set_cons_zero, List.set_cons_succ]
        refine' wpAnyH_take (i := 15) (oi := ⟨_, _, _, _, _, _⟩) (v := _) rfl (by kernel_rfl) (by kernel_rfl) (by kernel_rfl) (fun _ _ _ h => h) (Or.inl ⟨by rfl, ?hyc11115⟩) hS ?restc11115
        case hyc11115 => (intro wz hSw; (try dsimp only at hSw); go_simp; try with_reducible rfl)
        try simp only [Act.put, List.setIfInBounds_toArray, List.set_cons_zero, List.set_cons_succ]
        refine' wpAnyH_take (i := 16) (oi := ⟨_, _, _, _, _, _⟩) (v := _) rfl (by kernel_rfl) (by kernel_rfl) (by kernel_rfl) (fun _ _ _ h => h) (Or.inl ⟨by rfl, ?hyc11116⟩) hS ?restc11116
        case hyc11116 => (intro wz hSw; (try dsimp only at hSw); go_simp; try with_reducible rfl)
        try simp only [Act.put, List.setIfInBounds_toArray, List.set_cons_zero, List.set_cons_succ]
        refine' wpAnyH_take (i := 17) (oi := ⟨_, _, _, _, _, _⟩) (v := _) rfl (by kernel_rfl) (by kernel_rfl) (by kernel_rfl) (fun _ _ _ h => h) (Or.inl ⟨by rfl, ?hyc11117⟩) hS ?restc11117
        case hyc11117 => (intro wz hSw; (try dsimp only at hSw); go_simp; try with_reducible rfl)
        try simp only [Act.put, List.setIfInBounds_toArray, List.set_cons_zero, List.set_cons_succ]
        refine' wpAnyH_take (i := 18) (oi := ⟨_, _, _, _, _, _⟩) (v := _) rfl (by kernel_rfl) (by kernel_rfl) (by kernel_rfl) (fun _ _ _ h => h) (Or.inl ⟨by rfl, ?hyc11118⟩) hS ?restc11118
        case hyc11118 => (intro wz hSw; (try dsimp only at hSw); go_simp; try with_reducible rfl)
        try simp only [Act.put, List.setIfInBounds_toArray, List.set_cons_zero, List.set_cons_succ]
        refine' wpAnyH_take (i := 19) (oi := ⟨_, _, _, _, _, _⟩) (v := _) rfl (by kernel_rfl) (by kernel_rfl) (by kernel_rfl) (fun _ _ _ h => h) (Or.inl ⟨by rfl, ?hyc11119⟩) hS ?restc11119
        case hyc11119 => (intro wz hSw; (try dsimp only at hSw); go_simp; try with_reducible rfl)
        try simp only [Act.put, List.setIfInBounds_toArray, List.set_cons_zero, List.set_cons_succ]
        refine' wpAnyH_take (i := 20) (oi := ⟨_, _, _, _, _, _⟩) (v := _) rfl (by kernel_rfl) (by kernel_rfl) (by kernel_rfl) (fun _ _ _ h => h) (Or.inl ⟨by rfl, ?hyc11120⟩) hS ?restc11120
        case hyc11120 => (intro wz hSw; (try dsimp only at hSw); go_simp; try with_reducible rfl)
        try simp only [Act.put, List.setIfInBounds_toArray, List.set_cons_zero, List.set_cons_succ]
        refine' wpAnyH_take (i := 21) (oi := ⟨_, _, _, _, _, _⟩) (v := _) rfl (by kernel_rfl) (by kernel_rfl) (by kernel_rfl) (fun _ _ _ h => h) (Or.inl ⟨by rfl, ?hyc11121⟩) hS ?restc11121
        case hyc11121 => (intro wz hSw; (try dsimp only at hSw); go_simp; try with_reducible rfl)
        try simp only [Act.put, List.setIfInBounds_toArray, List.set_cons_zero, List.set_cons_succ]
        refine' wpAnyH_take (i := 23) (oi := ⟨_, _, _, _, _, _⟩) (v := _) rfl (by kernel_rfl) (by kernel_rfl) (by kernel_rfl) (fun _ _ _ h => h) (Or.inl ⟨by rfl, ?hyc11123⟩) hS ?restc11123
        case hyc11123 => (intro wz hSw; (try dsimp only at hSw); go_simp; try with_reducible rfl)
        try simp only [Act.put, List.setIfInBounds_toArray, List.set_cons_zero, List.set_cons_succ]
        refine' wpAnyH_take (i := 26) (oi := ⟨_, _, _, _, _, _⟩) (v := _) rfl (by kernel_rfl) (by kernel_rfl) (by kernel_rfl) (fun _ _ _ h => h) (Or.inl ⟨by rfl, ?hyc11126⟩) hS ?restc11126
        case hyc11126 => (intro wz hSw; (try dsimp only at hSw); go_simp; try with_reducible rfl)
        try simp only [Act.put, List.setIfInBounds_toArray, List.set_cons_zero, List.set_cons_succ]
        refine' wpAnyH_take (i := 27) (oi := ⟨_, _, _, _, _, _⟩) (v := _) rfl (by kernel_rfl) (by kernel_rfl) (by kernel_rfl) (fun _ _ _ h => h) (Or.inl ⟨by rfl, ?hyc11127⟩) hS ?restc11127
        case hyc11127 => (intro wz hSw; (try dsimp only at hSw); go_simp; try with_reducible rfl)
        try simp only [Act.put, List.setIfInBounds_toArray, List.set_cons_zero, List.set_cons_succ]
        refine wpAnyH_ready (rs := [22]) (by kernel_rfl) (by simp) (AllReadyH.cons rfl (fun K hK => ?_) AllReadyH.nil)
        go_simp
        go_at_call 24
        refine (hcq1.out _ _ r1.out).mono ?_
        rintro e w15 ⟨rfl, q15⟩
        go_wp2_with fail
        refine hK.out _ _ (held8_16 q15 hS) (fun hSn => ?_)
        clear hS
        have hS := hSn
        clear hSn
        clear hK K
        try simp only [Act.put, List.setIfInBounds_toArray, List.set_cons_zero, List.set_cons_succ]
        replace rv := Lib.hid (rch_below rv.out q15)
        replace r1 := Lib.hid (rch_below r1.out q15)
        replace r3 := Lib.hid (rch_below r3.out q15)
        replace r5 := Lib.hid (rch_below r5.out q15)
        replace bq := Lib.hid (below_on bq.out q15)
        clear q15
        refine wpAnyH_ready (rs := [24]) (by kernel_rfl) (by simp) (AllReadyH.cons rfl (fun K hK => ?_) AllReadyH.nil)
        go_simp
        go_at_call 12
        refine (ours16 rv.out).mono ?_
        rintro e w16 ⟨rfl, q16⟩
        go_wp2_with fail
        refine hK.out _ _ (held8_16 q16 hS) (fun hSn => ?_)
        clear hS
        have hS := hSn
        clear hSn
        clear hK K
        try simp only [Act.put, List.setIfInBounds_toArray, List.set_cons_zero, List.set_cons_succ]
        replace rv := Lib.hid (rch_below rv.out q16)
        replace r1 := Lib.hid (rch_below r1.out q16)
        replace r3 := Lib.hid (rch_below r3.out q16)
        replace r5 := Lib.hid (rch_below r5.out q16)
        replace bq := Lib.hid (below_on bq.out q16)
        clear q16
        refine wpAnyH_ready (rs := [25]) (by kernel_rfl) (by simp) (AllReadyH.cons rfl (fun K hK => ?_) AllReadyH.nil)
        go_simp
        go_at_call 24
        refine (hcA.out _ _ rv.out).mono ?_
        rintro e w17 ⟨rfl, q17⟩
        go_wp2_with fail
        refine hK.out _ _ (held8_16 q17 hS) (fun hSn => ?_)
        clear hS
        have hS := hSn
        clear hSn
        clear hK K
        try simp only [Act.put, List.setIfInBounds_toArray, List.set_cons_zero, List.set_cons_succ]
        replace rv := Lib.hid (rch_below rv.out q17)
        replace r1 := Lib.hid (rch_below r1.out q17)
        replace r3 := Lib.hid (rch_below r3.out q17)
        replace r5 := Lib.hid (rch_below r5.out q17)
        replace bq := Lib.hid (below_on bq.out q17)
        clear q17
        refine' wpAnyH_take (i := 28) (oi := ⟨_, _, _, _, _, _⟩) (v := _) rfl (by kernel_rfl) (by kernel_rfl) (by kernel_rfl) (fun _ _ _ h => h) (Or.inl ⟨by rfl, ?hyc11128⟩) hS ?restc11128
        case hyc11128 => (intro wz hSw; (try dsimp only at hSw); go_simp; try with_reducible rfl)
        try simp only [Act.put, List.setIfInBounds_toArray, List.set_cons_zero, List.set_cons_succ]
        refine' wpAnyH_take (i := 29) (oi := ⟨_, _, _, _, _, _⟩) (v := _) rfl (by kernel_rfl) (by kernel_rfl) (by kernel_rfl) (fun _ _ _ h => h) (Or.inl ⟨by rfl, ?hyc11129⟩) hS ?restc11129
        case hyc11129 => (intro wz hSw; (try dsimp only at hSw); go_simp; try with_reducible rfl)
        try simp only [Act.put, List.setIfInBounds_toArray, List.set_cons_zero, List.set_cons_succ]
        refine' wpAnyH_take (i := 30) (oi := ⟨_, _, _, _, _, _⟩) (v := _) rfl (by kernel_rfl) (by kernel_rfl) (by kernel_rfl) (fun _ _ _ h => h) (Or.inl ⟨by rfl, ?hyc11130⟩) hS ?restc11130
        case hyc11130 => (intro wz hSw; (try dsimp only at hSw); go_simp; try with_reducible rfl)
        try simp only [Act.put, List.setIfInBounds_toArray, List.set_cons_zero, List.set_cons_succ]
        refine' wpAnyH_take (i := 31) (oi := ⟨_, _, _, _, _, _⟩) (v := _) rfl (by kernel_rfl) (by kernel_rfl) (by kernel_rfl) (fun _ _ _ h => h) (Or.inl ⟨by rfl, ?hyc11131⟩) hS ?restc11131
        case hyc11131 => (intro wz hSw; (try dsimp only at hSw); go_simp; try with_reducible rfl)
        try simp only [Act.put, List.setIfInBounds_toArray, List.set_cons_zero, List.set_cons_succ]
        refine' wpAnyH_take (i := 32) (oi := ⟨_, _, _, _, _, _⟩) (v := _) rfl (by kernel_rfl) (by kernel_rfl) (by kernel_rfl) (fun _ _ _ h => h) (Or.inl ⟨by rfl, ?hyc11132⟩) hS ?restc11132
        case hyc11132 => (intro wz hSw; (try dsimp only at hSw); go_simp; try with_reducible rfl)
        try simp only [Act.put, List.setIfInBounds_toArray, List.set_cons_zero, List.set_cons_succ]
        refine' wpAnyH_take (i := 33) (oi := ⟨_, _, _, _, _, _⟩) (v := _) rfl (by kernel_rfl) (by kernel_rfl) (by kernel_rfl) (fun _ _ _ h => h) (Or.inl ⟨by rfl, ?hyc11133⟩) hS ?restc11133
        case hyc11133 => (intro wz hSw; (try dsimp only at hSw); go_simp; try with_reducible rfl)
        try simp only [Act.put, List.setIfInBounds_toArray, List.set_cons_zero, List.set_cons_succ]
        refine' wpAnyH_take (i := 34) (oi := ⟨_, _, _, _, _, _⟩) (v := _) rfl (by kernel_rfl) (by kernel_rfl) (by kernel_rfl) (fun _ _ _ h => h) (Or.inl ⟨by rfl, ?hyc11134⟩) hS ?restc11134
        case hyc11134 => (intro wz hSw; (try dsimp only at hSw); go_simp; try with_reducible rfl)
        try simp only [Act.put, List.setIfInBounds_toArray, List.set_cons_zero, List.set_cons_succ]
        refine' wpAnyH_take (i := 35) (oi := ⟨_, _, _, _, _, _⟩) (v := _) rfl (by kernel_rfl) (by kernel_rfl) (by kernel_rfl) (fun _ _ _ h => h) (Or.inl ⟨by rfl, ?hyc11135⟩) hS ?restc11135
        case hyc11135 => (intro wz hSw; (try dsimp only at hSw); go_simp; try with_reducible rfl)
        try simp only [Act.put, List.setIfInBounds_toArray, List.set_cons_zero, List.set_cons_succ]
        refine' wpAnyH_take (i := 36) (oi := ⟨_, _, _, _, _, _⟩) (v := _) rfl (by kernel_rfl) (by kernel_rfl) (by kernel_rfl) (fun _ _ _ h => h) (Or.inl ⟨by rfl, ?hyc11136⟩) hS ?restc11136
        case hyc11136 => (intro wz hSw; (try dsimp only at hSw); go_simp; try with_reducible rfl)
        try simp only [Act.put, List.setIfInBounds_toArray, List.set_cons_zero, List.set_cons_succ]
        refine' wpAnyH_take (i := 37) (oi := ⟨_, _, _, _, _, _⟩) (v := _) rfl (by kernel_rfl) (by kernel_rfl) (by kernel_rfl) (fun _ _ _ h => h) (Or.inl ⟨by rfl, ?hyc11137⟩) hS ?restc11137
        case hyc11137 => (intro wz hSw; (try dsimp only at hSw); go_simp; try with_reducible rfl)
        try simp only [Act.put, List.setIfInBounds_toArray, List.set_cons_zero, List.set_cons_succ]
        refine' wpAnyH_take (i := 38) (oi := ⟨_, _, _, _, _, _⟩) (v := _) rfl (by kernel_rfl) (by kernel_rfl) (by kernel_rfl) (fun _ _ _ h => h) (Or.inl ⟨by rfl, ?hyc11138⟩) hS ?restc11138
        case hyc11138 => (intro wz hSw; (try dsimp only at hSw); go_simp; try with_reducible rfl)
        try simp only [Act.put, List.setIfInBounds_toArray, List.set_cons_zero, List.set_cons_succ]
        refine' wpAnyH_take (i := 39) (oi := ⟨_, _, _, _, _, _⟩) (v := _) rfl (by kernel_rfl) (by kernel_rfl) (by kernel_rfl) (fun _ _ _ h => h) (Or.inl ⟨by rfl, ?hyc11139⟩) hS ?restc11139
        case hyc11139 => (intro wz hSw; (try dsimp only at hSw); go_simp; try with_reducible rfl)
        try simp only [Act.put, List.setIfInBounds_toArray, List.set_cons_zero, List.set_cons_succ]
        refine' wpAnyH_take (i := 40) (oi := ⟨_, _, _, _, _, _⟩) (v := _) rfl (by kernel_rfl) (by kernel_rfl) (by kernel_rfl) (fun _ _ _ h => h) (Or.inl ⟨by rfl, ?hyc11140⟩) hS ?restc11140
        case hyc11140 => (intro wz hSw; (try dsimp only at hSw); go_simp; try with_reducible rfl)
        try simp only [Act.put, List.setIfInBounds_toArray, List.set_cons_zero, List.set_cons_succ]
        refine wpAnyH_done (by kernel_rfl) ?_ _
        clear hS
        go_simp
        go_wp2_with fail
        go_ret
        exact ⟨rfl, bq.out⟩
  · have hb1 : 20 < b.length := by omega
    have hb2 : (20 : Int) < (b.length : Int) := by omega
    clear hn hcl hS hP hT hC hE hN hF
    rcases F with _ | _
    all_goals
      go_enter Try.func7, Try.ntmps7
      replace rc := Lib.hid (rch_below rc.out (below_new w (.cells #[.slice p n cap, .bool cl] 24)))
      replace rb := Lib.hid (rio_below rb.out (below_new w (.cells #[.slice p n cap, .bool cl] 24)))
      replace bq := Lib.hid (below_on bq.out (below_new w (.cells #[.slice p n cap, .bool cl] 24)))
      have x0 := Lib.hid (blk_new w #[.slice p n cap, .bool cl] 24)
      go_wp2_with fail
      refine (hawake.out _).mono ?_
      rintro e w2 ⟨rfl, q2⟩
      replace rc := Lib.hid (rch_below rc.out q2)
      replace rb := Lib.hid (rio_below rb.out q2)
      replace x0 := Lib.hid (blk_below x0.out q2)
      replace bq := Lib.hid (below_on bq.out q2)
      clear q2
      have x0_0 := blk_cell x0.out 0 _ rfl
      have x0_1 := blk_cell x0.out 1 _ rfl
      go_wp2_with fail
      refine (rfew16 (Up N0 w) _ c w2 rc.out hmax).mono ?_
      rintro e w3 ⟨rfl, q3⟩
      clear x0_0 x0_1
      replace rc := Lib.hid (rch_below rc.out q3)
      replace rb := Lib.hid (rio_below rb.out q3)
      replace x0 := Lib.hid (blk_below x0.out q3)
      replace bq := Lib.hid (below_on bq.out q3)
      rw [hfew.out]
      clear q3
      go_wp2_with fail
      go_ret
      exact ⟨rfl, bq.out⟩
end Go.Proofs.Ytcbfgcmdlfediaa
