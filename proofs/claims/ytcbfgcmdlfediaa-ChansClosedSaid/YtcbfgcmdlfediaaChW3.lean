/- Layer 16: the walk of ChansPass. -/
import Derived.Test.YtcbfgcmdlfediaaChW0
namespace Go.Proofs.Ytcbfgcmdlfediaa
set_option linter.unusedSimpArgs false
set_option linter.unusedVariables false
open Go.RowKit Go.Lib
open Stg (Ch)
theorem rch_z16 {J : Nat → Prop} {w : World} {v : Value} {c : Ch} (h : RCh J w v c) : RCh N0 w v c := rch_mono h fun _ _ h => h.elim
theorem rio_dn16 {J : Nat → Prop} {w : World} {v : Value} {l : List Int} (h : RIo J w v l) : RIo N0 w v l := rio_mono h fun _ _ h => h.elim
theorem sane_one {b : List Int} (s : Bool) (h1 : 1 ≤ b.length) (h2 : b.length ≤ 8) : Stg.saneC ⟨[b], s⟩ = true := (Stg.saneC_iff _).2 ⟨by simp, fun x hx => by
  obtain rfl : x = b := by simpa using hx
  exact ⟨h1, h2⟩⟩
set_option maxHeartbeats 6400000 in
set_option maxRecDepth 100000 in
theorem chansPass_walk (hS : SaneC16) (hP : PutC16) (hT : TakeC16) (hC : CloseC16) (hE : SpentC16) (hN : CountC16) (vb : Value) (b : List Int) (sh : Bool) (w : World) (hvb : RI w vb b ∧ WfI b) :
    Calls Try.prog 8 #[vb, .bool sh] w fun e w' => e = .returned (.bool true) ∧ Below w.heap.size w w' := by
  have rb := rio_up (rio_of hvb.1)
  have hawake := Lib.hid (awake16 hS hP hT hN)
  obtain ⟨pb, cb, rfl⟩ := ri_form rb.1
  have bq := Lib.hid (Below.refl w.heap.size w)
  replace rb := Lib.hid rb
  clear hvb
  by_cases hb : b.length ≤ 20
  · have hb1 : ¬ 20 < b.length := by omega
    have hb2 : ¬ (20 : Int) < (b.length : Int) := by omega
    have f0 : ∀ s, (⟨[], s⟩ : Ch).Few := fun s => ⟨by simp, fun x h => by cases h⟩
    have hsp : ∀ s W V (h : RCh N0 W V ⟨[], s⟩), Calls Try.prog 22 #[V] W fun e w' => e = .returned (.bool s) ∧ Below W.heap.size W w' := fun s W V h => by
      have := hE N0 V _ W (f0 s) h
      rw [show Stg.spentC ⟨[], s⟩ = s by cases s <;> decide +kernel] at this
      exact this
    have hcn : ∀ s W V (h : RCh N0 W V ⟨[], s⟩), Calls Try.prog 24 #[V] W fun e w' => e = .returned (.int .i64 0) ∧ Below W.heap.size W w' := fun s W V h => by
      have := hN N0 V _ W (f0 s) h
      rw [show Stg.countC ⟨[], s⟩ = 0 by cases s <;> decide +kernel] at this
      exact this
    have hcount0 := Lib.hid hcn
    have hspent0 := Lib.hid hsp
    clear hcn hsp
    have hbl := Lib.hid (show b.length ≤ 100000 by omega)
    by_cases hok : 1 ≤ b.length ∧ b.length ≤ 8
    · obtain ⟨h1, h8⟩ := hok
      have n1 : (1 : Int) ≤ (b.length : Int) := by omega
      have n2 : (b.length : Int) ≤ 8 := by omega
      have n3 : 0 < b.length := by omega
      have sL := fun s => sane_one s h1 h8
      have fL := fun s => few_sane (sL s)
      have hput := fun W U (h : RIo N0 W U b) => put_of16 hP (c := ⟨[], false⟩) (b := b) (q := (⟨[b], false⟩, true)) (v := .agg #[.slice none 0 0, .bool false]) (by unfold Stg.putC; rw [if_pos ⟨(Stg.okB_iff b).2 ⟨h1, h8⟩, rfl, by decide⟩]; rfl) (old0 W) (f0 _) (by omega) (rch_zero N0 W) h
      have hclose := fun J W V ho (h : RCh J W V ⟨[b], false⟩) => hC J V _ W ho (fL false) h
      have htakefalse := fun W V (h : RCh N0 W V ⟨[b], false⟩) => take_of16 hT (q := (⟨[], false⟩, b, true)) (by unfold Stg.takeC; rw [Stg.asC_same (sL false)]) (old0 W) (fL false) h
      have htaketrue := fun W V (h : RCh N0 W V ⟨[b], true⟩) => take_of16 hT (q := (⟨[], true⟩, b, true)) (by unfold Stg.takeC; rw [Stg.asC_same (sL true)]) (old0 W) (fL true) h
      have hcountL : ∀ s W V (h : RCh N0 W V ⟨[b], s⟩), Calls Try.prog 24 #[V] W fun e w' => e = .returned (.int .i64 (b.length : Nat)) ∧ Below W.heap.size W w' := fun s W V h => by
        have := hN N0 V _ W (fL s) h
        rw [show Stg.countC ⟨[b], s⟩ = b.length by unfold Stg.countC; rw [Stg.asC_same (sL s)]; simp] at this
        exact this
      have hspentL : ∀ s W V (h : RCh N0 W V ⟨[b], s⟩), Calls Try.prog 22 #[V] W fun e w' => e = .returned (.bool false) ∧ Below W.heap.size W w' := fun s W V h => by
        have := hE N0 V _ W (fL s) h
        rw [show Stg.spentC ⟨[b], s⟩ = false by unfold Stg.spentC; rw [Stg.asC_same (sL s)]; simp] at this
        exact this
      unfold Stg.closeC at hclose
      rw [Stg.asC_same (sL false)] at hclose
      unfold ToldCB at hput
      unfold ToldCLB at htakefalse htaketrue
      unfold ToldC at hclose
      replace hput := Lib.hid hput
      replace hclose := Lib.hid (fun k => hclose (fun j => j = k))
      replace htakefalse := Lib.hid htakefalse
      replace htaketrue := Lib.hid htaketrue
      replace hcountL := Lib.hid hcountL
      replace hspentL := Lib.hid hspentL
      clear hS hP hT hC hE hN sL fL f0
      rcases sh with _ | _
      · clear hclose
        go_enter Try.func8, Try.ntmps8
        go_wp2_with fail
        refine (hawake.out _).mono ?_
        rintro e w2 ⟨rfl, q2⟩
        replace rb := Lib.hid (rio_below rb.out q2)
        replace bq := Lib.hid (below_on bq.out q2)
        clear q2
        go_wp2_with fail
        refine (hput.out _ _ (rio_dn16 rb.out)).mono ?_
        rintro e w3 ⟨v1, rfl, r1, q3⟩
        replace rb := Lib.hid (rio_below rb.out q3)
        replace bq := Lib.hid (below_on bq.out q3)
        replace r1 := rch_mono (K := (fun j => j = w3.heap.size)) (rch_up r1) (fun j _ h => .inr (Nat.le_of_eq h.symm))
        obtain ⟨p1, k1, rfl, _⟩ := rch_form r1
        replace r1 : RCh (fun j => j = w3.heap.size) w3 (.agg #[.slice p1 1 k1, .bool false]) ⟨[b], false⟩ := r1
        replace r1 := Lib.hid r1
        clear q3
        have l1 := bq.out.size
        replace rb := Lib.hid (rio_below rb.out (below_new w3 (.cells #[.slice p1 1 k1, .bool false] 28)))
        replace r1 := Lib.hid (rch_below r1.out (below_new w3 (.cells #[.slice p1 1 k1, .bool false] 28)))
        replace bq := Lib.hid (below_on bq.out (below_new w3 (.cells #[.slice p1 1 k1, .bool false] 28)))
        have x1 := Lib.hid (blk_new w3 #[.slice p1 1 k1, .bool false] 28)
        have x1_0 := blk_cell x1.out 0 _ rfl
        have x1_1 := blk_cell x1.out 1 _ rfl
        go_wp2_with fail
        refine (htakefalse.out _ _ (rch_z16 r1.out)).mono ?_
        rintro e w4 ⟨v4, u4, rfl, r4, s4, q4⟩
        clear x1_0 x1_1
        replace rb := Lib.hid (rio_below rb.out q4)
        replace r1 := Lib.hid (rch_below r1.out q4)
        replace x1 := Lib.hid (blk_below x1.out q4)
        replace bq := Lib.hid (below_on bq.out q4)
        obtain ⟨p4, k4, rfl, _⟩ := rch_form r4
        replace r4 : RCh N0 w4 (.agg #[.slice p4 0 k4, .bool false]) ⟨[], false⟩ := r4
        obtain ⟨a4, d4, rfl⟩ := ri_form s4.1
        replace r4 := Lib.hid r4
        replace s4 := Lib.hid s4
        clear q4
        replace rb := Lib.hid (rio_below rb.out (below_new w4 (.cells #[.slice p4 0 k4, .bool false] 28)))
        replace r1 := Lib.hid (rch_below r1.out (below_new w4 (.cells #[.slice p4 0 k4, .bool false] 28)))
        replace x1 := Lib.hid (blk_below x1.out (below_new w4 (.cells #[.slice p4 0 k4, .bool false] 28)))
        replace r4 := Lib.hid (rch_below r4.out (below_new w4 (.cells #[.slice p4 0 k4, .bool false] 28)))
        replace s4 := Lib.hid (rio_below s4.out (below_new w4 (.cells #[.slice p4 0 k4, .bool false] 28)))
        replace bq := Lib.hid (below_on bq.out (below_new w4 (.cells #[.slice p4 0 k4, .bool false] 28)))
        have x4 := Lib.hid (blk_new w4 #[.slice p4 0 k4, .bool false] 28)
        have x4_0 := blk_cell x4.out 0 _ rfl
        have x4_1 := blk_cell x4.out 1 _ rfl
        go_wp2_with fail
        refine (hcount0.out _ _ _ r4.out).mono ?_
        rintro e w5 ⟨rfl, q5⟩
        clear x4_0 x4_1
        replace rb := Lib.hid (rio_below rb.out q5)
        replace r1 := Lib.hid (rch_below r1.out q5)
        replace x1 := Lib.hid (blk_below x1.out q5)
        replace r4 := Lib.hid (rch_below r4.out q5)
        replace s4 := Lib.hid (rio_below s4.out q5)
        replace x4 := Lib.hid (blk_below x4.out q5)
        replace bq := Lib.hid (below_on bq.out q5)
        clear q5
        have x4_0 := blk_cell x4.out 0 _ rfl
        have x4_1 := blk_cell x4.out 1 _ rfl
        go_wp2_with fail
        refine (hspent0.out _ _ _ r4.out).mono ?_
        rintro e w6 ⟨rfl, q6⟩
        clear x4_0 x4_1
        replace rb := Lib.hid (rio_below rb.out q6)
        replace r1 := Lib.hid (rch_below r1.out q6)
        replace x1 := Lib.hid (blk_below x1.out q6)
        replace r4 := Lib.hid (rch_below r4.out q6)
        replace s4 := Lib.hid (rio_below s4.out q6)
        replace x4 := Lib.hid (blk_below x4.out q6)
        replace bq := Lib.hid (below_on bq.out q6)
        clear q6
        clear r4 x4
        go_wp2_with fail
        refine (same_self _ _ b _ hbl.out s4.out.1 rb.out.1).mono ?_
        rintro e w7 ⟨rfl, q7⟩
        replace rb := Lib.hid (rio_below rb.out q7)
        replace r1 := Lib.hid (rch_below r1.out q7)
        replace x1 := Lib.hid (blk_below x1.out q7)
        replace s4 := Lib.hid (rio_below s4.out q7)
        replace bq := Lib.hid (below_on bq.out q7)
        clear q7
        have x1_0 := blk_cell x1.out 0 _ rfl
        have x1_1 := blk_cell x1.out 1 _ rfl
        go_wp2_with fail
        refine (hcountL.out _ _ _ (rch_z16 r1.out)).mono ?_
        rintro e w8 ⟨rfl, q8⟩
        clear x1_0 x1_1
        replace rb := Lib.hid (rio_below rb.out q8)
        replace r1 := Lib.hid (rch_below r1.out q8)
        replace x1 := Lib.hid (blk_below x1.out q8)
        replace s4 := Lib.hid (rio_below s4.out q8)
        replace bq := Lib.hid (below_on bq.out q8)
        clear q8
        have x1_0 := blk_cell x1.out 0 _ rfl
        have x1_1 := blk_cell x1.out 1 _ rfl
        go_wp2_with fail
        refine (hspentL.out _ _ _ (rch_z16 r1.out)).mono ?_
        rintro e w9 ⟨rfl, q9⟩
        clear x1_0 x1_1
        replace rb := Lib.hid (rio_below rb.out q9)
        replace r1 := Lib.hid (rch_below r1.out q9)
        replace x1 := Lib.hid (blk_below x1.out q9)
        replace s4 := Lib.hid (rio_below s4.out q9)
        replace bq := Lib.hid (below_on bq.out q9)
        clear q9
        go_wp2_with fail
        go_ret
        exact ⟨rfl, bq.out⟩
      · go_enter Try.func8, Try.ntmps8
        go_wp2_with fail
        refine (hawake.out _).mono ?_
        rintro e w2 ⟨rfl, q2⟩
        replace rb := Lib.hid (rio_below rb.out q2)
        replace bq := Lib.hid (below_on bq.out q2)
        clear q2
        go_wp2_with fail
        refine (hput.out _ _ (rio_dn16 rb.out)).mono ?_
        rintro e w3 ⟨v1, rfl, r1, q3⟩
        replace rb := Lib.hid (rio_below rb.out q3)
        replace bq := Lib.hid (below_on bq.out q3)
        replace r1 := rch_mono (K := (fun j => j = w3.heap.size)) (rch_up r1) (fun j _ h => .inr (Nat.le_of_eq h.symm))
        obtain ⟨p1, k1, rfl, _⟩ := rch_form r1
        replace r1 : RCh (fun j => j = w3.heap.size) w3 (.agg #[.slice p1 1 k1, .bool false]) ⟨[b], false⟩ := r1
        replace r1 := Lib.hid r1
        clear q3
        have l1 := bq.out.size
        replace rb := Lib.hid (rio_below rb.out (below_new w3 (.cells #[.slice p1 1 k1, .bool false] 28)))
        replace r1 := Lib.hid (rch_below r1.out (below_new w3 (.cells #[.slice p1 1 k1, .bool false] 28)))
        replace bq := Lib.hid (below_on bq.out (below_new w3 (.cells #[.slice p1 1 k1, .bool false] 28)))
        have x1 := Lib.hid (blk_new w3 #[.slice p1 1 k1, .bool false] 28)
        have l0 := blk_lt x1.out
        have x1_0 := blk_cell x1.out 0 _ rfl
        have x1_1 := blk_cell x1.out 1 _ rfl
        go_wp2_with fail
        refine (hclose.out _ _ _ (fun j h => by rw [h]; exact l0) r1.out).mono ?_
        rintro e w4 ⟨v2, rfl, r2, q4⟩
        clear x1_0 x1_1
        replace rb := Lib.hid (rio_below rb.out q4)
        replace r1 := Lib.hid (rch_below r1.out q4)
        replace x1 := Lib.hid (blk_below x1.out q4)
        replace bq := Lib.hid (below_on bq.out q4)
        obtain ⟨p2, k2, rfl, _⟩ := rch_form r2
        replace r2 : RCh (fun j => j = w3.heap.size) w4 (.agg #[.slice p2 1 k2, .bool true]) ⟨[b], true⟩ := r2
        replace r2 := Lib.hid r2
        clear q4
        clear r1
        have f0 := blk_thaw x1.out 0
        have f1 := blk_thaw x1.out 1
        have x1_0 := blk_cell x1.out 0 _ rfl
        have x1_1 := blk_cell x1.out 1 _ rfl
        go_upto_region 9 with (fail)
        clear f0 f1
        clear x1_0 x1_1
        replace rb := Lib.hid (rio_but rb.out (only_set2 _ (w3.heap.size) (.slice p2 1 k2) (.bool true) (.inr (by omega))))
        replace x1 := Lib.hid (blk_setAt16 (blk_setAt16 x1.out 0 (.slice p2 1 k2)) 1 (.bool true))
        replace r2 := Lib.hid (rch_but r2.out (only_set2 _ (w3.heap.size) (.slice p2 1 k2) (.bool true) rfl))
        replace bq := Lib.hid (below_set2 bq.out (show w.heap.size ≤ w3.heap.size by omega) (.slice p2 1 k2) (.bool true))
        have x1_0 := blk_cell x1.out 0 _ rfl
        have x1_1 := blk_cell x1.out 1 _ rfl
        go_wp2_with fail
        refine (htaketrue.out _ _ (rch_z16 r2.out)).mono ?_
        rintro e w5 ⟨v4, u4, rfl, r4, s4, q5⟩
        clear x1_0 x1_1
        replace rb := Lib.hid (rio_below rb.out q5)
        replace x1 := Lib.hid (blk_below x1.out q5)
        replace r2 := Lib.hid (rch_below r2.out q5)
        replace bq := Lib.hid (below_on bq.out q5)
        obtain ⟨p4, k4, rfl, _⟩ := rch_form r4
        replace r4 : RCh N0 w5 (.agg #[.slice p4 0 k4, .bool true]) ⟨[], true⟩ := r4
        obtain ⟨a4, d4, rfl⟩ := ri_form s4.1
        replace r4 := Lib.hid r4
        replace s4 := Lib.hid s4
        clear q5
        replace rb := Lib.hid (rio_below rb.out (below_new w5 (.cells #[.slice p4 0 k4, .bool true] 28)))
        replace x1 := Lib.hid (blk_below x1.out (below_new w5 (.cells #[.slice p4 0 k4, .bool true] 28)))
        replace r2 := Lib.hid (rch_below r2.out (below_new w5 (.cells #[.slice p4 0 k4, .bool true] 28)))
        replace r4 := Lib.hid (rch_below r4.out (below_new w5 (.cells #[.slice p4 0 k4, .bool true] 28)))
        replace s4 := Lib.hid (rio_below s4.out (below_new w5 (.cells #[.slice p4 0 k4, .bool true] 28)))
        replace bq := Lib.hid (below_on bq.out (below_new w5 (.cells #[.slice p4 0 k4, .bool true] 28)))
        have x4 := Lib.hid (blk_new w5 #[.slice p4 0 k4, .bool true] 28)
        have x4_0 := blk_cell x4.out 0 _ rfl
        have x4_1 := blk_cell x4.out 1 _ rfl
        go_wp2_with fail
        refine (hcount0.out _ _ _ r4.out).mono ?_
        rintro e w6 ⟨rfl, q6⟩
        clear x4_0 x4_1
        replace rb := Lib.hid (rio_below rb.out q6)
        replace x1 := Lib.hid (blk_below x1.out q6)
        replace r2 := Lib.hid (rch_below r2.out q6)
        replace r4 := Lib.hid (rch_below r4.out q6)
        replace s4 := Lib.hid (rio_below s4.out q6)
        replace x4 := Lib.hid (blk_below x4.out q6)
        replace bq := Lib.hid (below_on bq.out q6)
        clear q6
        have x4_0 := blk_cell x4.out 0 _ rfl
        have x4_1 := blk_cell x4.out 1 _ rfl
        go_wp2_with fail
        refine (hspent0.out _ _ _ r4.out).mono ?_
        rintro e w7 ⟨rfl, q7⟩
        clear x4_0 x4_1
        replace rb := Lib.hid (rio_below rb.out q7)
        replace x1 := Lib.hid (blk_below x1.out q7)
        replace r2 := Lib.hid (rch_below r2.out q7)
        replace r4 := Lib.hid (rch_below r4.out q7)
        replace s4 := Lib.hid (rio_below s4.out q7)
        replace x4 := Lib.hid (blk_below x4.out q7)
        replace bq := Lib.hid (below_on bq.out q7)
        clear q7
        clear r4 x4
        go_wp2_with fail
        refine (same_self _ _ b _ hbl.out s4.out.1 rb.out.1).mono ?_
        rintro e w8 ⟨rfl, q8⟩
        replace rb := Lib.hid (rio_below rb.out q8)
        replace x1 := Lib.hid (blk_below x1.out q8)
        replace r2 := Lib.hid (rch_below r2.out q8)
        replace s4 := Lib.hid (rio_below s4.out q8)
        replace bq := Lib.hid (below_on bq.out q8)
        clear q8
        have x1_0 := blk_cell x1.out 0 _ rfl
        have x1_1 := blk_cell x1.out 1 _ rfl
        go_wp2_with fail
        refine (hcountL.out _ _ _ (rch_z16 r2.out)).mono ?_
        rintro e w9 ⟨rfl, q9⟩
        clear x1_0 x1_1
        replace rb := Lib.hid (rio_below rb.out q9)
        replace x1 := Lib.hid (blk_below x1.out q9)
        replace r2 := Lib.hid (rch_below r2.out q9)
        replace s4 := Lib.hid (rio_below s4.out q9)
        replace bq := Lib.hid (below_on bq.out q9)
        clear q9
        have x1_0 := blk_cell x1.out 0 _ rfl
        have x1_1 := blk_cell x1.out 1 _ rfl
        go_wp2_with fail
        refine (hspentL.out _ _ _ (rch_z16 r2.out)).mono ?_
        rintro e w10 ⟨rfl, q10⟩
        clear x1_0 x1_1
        replace rb := Lib.hid (rio_below rb.out q10)
        replace x1 := Lib.hid (blk_below x1.out q10)
        replace r2 := Lib.hid (rch_below r2.out q10)
        replace s4 := Lib.hid (rio_below s4.out q10)
        replace bq := Lib.hid (below_on bq.out q10)
        clear q10
        go_wp2_with fail
        go_ret
        exact ⟨rfl, bq.out⟩
    · have hno : Stg.okB b = false := by rw [← Bool.not_eq_true]; exact fun h => hok ((Stg.okB_iff b).1 h)
      have hput := fun W U (h : RIo N0 W U b) => put_of16 hP (c := ⟨[], false⟩) (b := b) (q := (⟨[], false⟩, false)) (v := .agg #[.slice none 0 0, .bool false]) (by unfold Stg.putC; rw [if_neg (by rw [hno]; simp)]; rfl) (old0 W) (f0 _) (by omega) (rch_zero N0 W) h
      have hclose := fun J W V ho (h : RCh J W V ⟨[], false⟩) => hC J V _ W ho (f0 false) h
      have htakefalse := fun W V (h : RCh N0 W V ⟨[], false⟩) => take_of16 hT (q := (⟨[], false⟩, [], false)) rfl (old0 W) (f0 false) h
      have htaketrue := fun W V (h : RCh N0 W V ⟨[], true⟩) => take_of16 hT (q := (⟨[], true⟩, [], false)) rfl (old0 W) (f0 true) h
      unfold Stg.closeC at hclose
      rw [show (Stg.asC ⟨[], false⟩).L = [] from rfl] at hclose
      unfold ToldCB at hput
      unfold ToldCLB at htakefalse htaketrue
      unfold ToldC at hclose
      replace hput := Lib.hid hput
      replace hclose := Lib.hid (fun k => hclose (fun j => j = k))
      replace htakefalse := Lib.hid htakefalse
      replace htaketrue := Lib.hid htaketrue
      clear hS hP hT hC hE hN f0 hno
      by_cases h1 : 1 ≤ b.length
      · have n1 : (1 : Int) ≤ (b.length : Int) := by omega
        have n2 : ¬ (b.length : Int) ≤ 8 := by omega
        have n3 : 0 < b.length := by omega
        have n4 : ¬ b.length ≤ 8 := by omega
        rcases sh with _ | _
        · clear hclose
          go_enter Try.func8, Try.ntmps8
          go_wp2_with fail
          refine (hawake.out _).mono ?_
          rintro e w2 ⟨rfl, q2⟩
          replace rb := Lib.hid (rio_below rb.out q2)
          replace bq := Lib.hid (below_on bq.out q2)
          clear q2
          go_wp2_with fail
          refine (hput.out _ _ (rio_dn16 rb.out)).mono ?_
          rintro e w3 ⟨v1, rfl, r1, q3⟩
          replace rb := Lib.hid (rio_below rb.out q3)
          replace bq := Lib.hid (below_on bq.out q3)
          replace r1 := rch_mono (K := (fun j => j = w3.heap.size)) (rch_up r1) (fun j _ h => .inr (Nat.le_of_eq h.symm))
          obtain ⟨p1, k1, rfl, _⟩ := rch_form r1
          replace r1 : RCh (fun j => j = w3.heap.size) w3 (.agg #[.slice p1 0 k1, .bool false]) ⟨[], false⟩ := r1
          replace r1 := Lib.hid r1
          clear q3
          have l1 := bq.out.size
          replace rb := Lib.hid (rio_below rb.out (below_new w3 (.cells #[.slice p1 0 k1, .bool false] 28)))
          replace r1 := Lib.hid (rch_below r1.out (below_new w3 (.cells #[.slice p1 0 k1, .bool false] 28)))
          replace bq := Lib.hid (below_on bq.out (below_new w3 (.cells #[.slice p1 0 k1, .bool false] 28)))
          have x1 := Lib.hid (blk_new w3 #[.slice p1 0 k1, .bool false] 28)
          have x1_0 := blk_cell x1.out 0 _ rfl
          have x1_1 := blk_cell x1.out 1 _ rfl
          go_wp2_with fail
          refine (htakefalse.out _ _ (rch_z16 r1.out)).mono ?_
          rintro e w4 ⟨v4, u4, rfl, r4, s4, q4⟩
          clear x1_0 x1_1
          replace rb := Lib.hid (rio_below rb.out q4)
          replace r1 := Lib.hid (rch_below r1.out q4)
          replace x1 := Lib.hid (blk_below x1.out q4)
          replace bq := Lib.hid (below_on bq.out q4)
          obtain ⟨p4, k4, rfl, _⟩ := rch_form r4
          replace r4 : RCh N0 w4 (.agg #[.slice p4 0 k4, .bool false]) ⟨[], false⟩ := r4
          obtain ⟨a4, d4, rfl⟩ := ri_form s4.1
          replace r4 := Lib.hid r4
          clear s4
          clear q4
          replace rb := Lib.hid (rio_below rb.out (below_new w4 (.cells #[.slice p4 0 k4, .bool false] 28)))
          replace r1 := Lib.hid (rch_below r1.out (below_new w4 (.cells #[.slice p4 0 k4, .bool false] 28)))
          replace x1 := Lib.hid (blk_below x1.out (below_new w4 (.cells #[.slice p4 0 k4, .bool false] 28)))
          replace r4 := Lib.hid (rch_below r4.out (below_new w4 (.cells #[.slice p4 0 k4, .bool false] 28)))
          replace bq := Lib.hid (below_on bq.out (below_new w4 (.cells #[.slice p4 0 k4, .bool false] 28)))
          have x4 := Lib.hid (blk_new w4 #[.slice p4 0 k4, .bool false] 28)
          have x4_0 := blk_cell x4.out 0 _ rfl
          have x4_1 := blk_cell x4.out 1 _ rfl
          go_wp2_with fail
          refine (hcount0.out _ _ _ r4.out).mono ?_
          rintro e w5 ⟨rfl, q5⟩
          clear x4_0 x4_1
          replace rb := Lib.hid (rio_below rb.out q5)
          replace r1 := Lib.hid (rch_below r1.out q5)
          replace x1 := Lib.hid (blk_below x1.out q5)
          replace r4 := Lib.hid (rch_below r4.out q5)
          replace x4 := Lib.hid (blk_below x4.out q5)
          replace bq := Lib.hid (below_on bq.out q5)
          clear q5
          have x4_0 := blk_cell x4.out 0 _ rfl
          have x4_1 := blk_cell x4.out 1 _ rfl
          go_wp2_with fail
          refine (hspent0.out _ _ _ r4.out).mono ?_
          rintro e w6 ⟨rfl, q6⟩
          clear x4_0 x4_1
          replace rb := Lib.hid (rio_below rb.out q6)
          replace r1 := Lib.hid (rch_below r1.out q6)
          replace x1 := Lib.hid (blk_below x1.out q6)
          replace r4 := Lib.hid (rch_below r4.out q6)
          replace x4 := Lib.hid (blk_below x4.out q6)
          replace bq := Lib.hid (below_on bq.out q6)
          clear q6
          clear r4 x4
          have x1_0 := blk_cell x1.out 0 _ rfl
          have x1_1 := blk_cell x1.out 1 _ rfl
          go_wp2_with fail
          refine (hcount0.out _ _ _ (rch_z16 r1.out)).mono ?_
          rintro e w7 ⟨rfl, q7⟩
          clear x1_0 x1_1
          replace rb := Lib.hid (rio_below rb.out q7)
          replace r1 := Lib.hid (rch_below r1.out q7)
          replace x1 := Lib.hid (blk_below x1.out q7)
          replace bq := Lib.hid (below_on bq.out q7)
          clear q7
          go_wp2_with fail
          go_ret
          exact ⟨rfl, bq.out⟩
        · go_enter Try.func8, Try.ntmps8
          go_wp2_with fail
          refine (hawake.out _).mono ?_
          rintro e w2 ⟨rfl, q2⟩
          replace rb := Lib.hid (rio_below rb.out q2)
          replace bq := Lib.hid (below_on bq.out q2)
          clear q2
          go_wp2_with fail
          refine (hput.out _ _ (rio_dn16 rb.out)).mono ?_
          rintro e w3 ⟨v1, rfl, r1, q3⟩
          replace rb := Lib.hid (rio_below rb.out q3)
          replace bq := Lib.hid (below_on bq.out q3)
          replace r1 := rch_mono (K := (fun j => j = w3.heap.size)) (rch_up r1) (fun j _ h => .inr (Nat.le_of_eq h.symm))
          obtain ⟨p1, k1, rfl, _⟩ := rch_form r1
          replace r1 : RCh (fun j => j = w3.heap.size) w3 (.agg #[.slice p1 0 k1, .bool false]) ⟨[], false⟩ := r1
          replace r1 := Lib.hid r1
          clear q3
          have l1 := bq.out.size
          replace rb := Lib.hid (rio_below rb.out (below_new w3 (.cells #[.slice p1 0 k1, .bool false] 28)))
          replace r1 := Lib.hid (rch_below r1.out (below_new w3 (.cells #[.slice p1 0 k1, .bool false] 28)))
          replace bq := Lib.hid (below_on bq.out (below_new w3 (.cells #[.slice p1 0 k1, .bool false] 28)))
          have x1 := Lib.hid (blk_new w3 #[.slice p1 0 k1, .bool false] 28)
          have l0 := blk_lt x1.out
          have x1_0 := blk_cell x1.out 0 _ rfl
          have x1_1 := blk_cell x1.out 1 _ rfl
          go_wp2_with fail
          refine (hclose.out _ _ _ (fun j h => by rw [h]; exact l0) r1.out).mono ?_
          rintro e w4 ⟨v2, rfl, r2, q4⟩
          clear x1_0 x1_1
          replace rb := Lib.hid (rio_below rb.out q4)
          replace r1 := Lib.hid (rch_below r1.out q4)
          replace x1 := Lib.hid (blk_below x1.out q4)
          replace bq := Lib.hid (below_on bq.out q4)
          obtain ⟨p2, k2, rfl, _⟩ := rch_form r2
          replace r2 : RCh (fun j => j = w3.heap.size) w4 (.agg #[.slice p2 0 k2, .bool true]) ⟨[], true⟩ := r2
          replace r2 := Lib.hid r2
          clear q4
          clear r1
          have f0 := blk_thaw x1.out 0
          have f1 := blk_thaw x1.out 1
          have x1_0 := blk_cell x1.out 0 _ rfl
          have x1_1 := blk_cell x1.out 1 _ rfl
          go_upto_region 9 with (fail)
          clear f0 f1
          clear x1_0 x1_1
          replace rb := Lib.hid (rio_but rb.out (only_set2 _ (w3.heap.size) (.slice p2 0 k2) (.bool true) (.inr (by omega))))
          replace x1 := Lib.hid (blk_setAt16 (blk_setAt16 x1.out 0 (.slice p2 0 k2)) 1 (.bool true))
          replace r2 := Lib.hid (rch_but r2.out (only_set2 _ (w3.heap.size) (.slice p2 0 k2) (.bool true) rfl))
          replace bq := Lib.hid (below_set2 bq.out (show w.heap.size ≤ w3.heap.size by omega) (.slice p2 0 k2) (.bool true))
          have x1_0 := blk_cell x1.out 0 _ rfl
          have x1_1 := blk_cell x1.out 1 _ rfl
          go_wp2_with fail
          refine (htaketrue.out _ _ (rch_z16 r2.out)).mono ?_
          rintro e w5 ⟨v4, u4, rfl, r4, s4, q5⟩
          clear x1_0 x1_1
          replace rb := Lib.hid (rio_below rb.out q5)
          replace x1 := Lib.hid (blk_below x1.out q5)
          replace r2 := Lib.hid (rch_below r2.out q5)
          replace bq := Lib.hid (below_on bq.out q5)
          obtain ⟨p4, k4, rfl, _⟩ := rch_form r4
          replace r4 : RCh N0 w5 (.agg #[.slice p4 0 k4, .bool true]) ⟨[], true⟩ := r4
          obtain ⟨a4, d4, rfl⟩ := ri_form s4.1
          replace r4 := Lib.hid r4
          clear s4
          clear q5
          replace rb := Lib.hid (rio_below rb.out (below_new w5 (.cells #[.slice p4 0 k4, .bool true] 28)))
          replace x1 := Lib.hid (blk_below x1.out (below_new w5 (.cells #[.slice p4 0 k4, .bool true] 28)))
          replace r2 := Lib.hid (rch_below r2.out (below_new w5 (.cells #[.slice p4 0 k4, .bool true] 28)))
          replace r4 := Lib.hid (rch_below r4.out (below_new w5 (.cells #[.slice p4 0 k4, .bool true] 28)))
          replace bq := Lib.hid (below_on bq.out (below_new w5 (.cells #[.slice p4 0 k4, .bool true] 28)))
          have x4 := Lib.hid (blk_new w5 #[.slice p4 0 k4, .bool true] 28)
          have x4_0 := blk_cell x4.out 0 _ rfl
          have x4_1 := blk_cell x4.out 1 _ rfl
          go_wp2_with fail
          refine (hcount0.out _ _ _ r4.out).mono ?_
          rintro e w6 ⟨rfl, q6⟩
          clear x4_0 x4_1
          replace rb := Lib.hid (rio_below rb.out q6)
          replace x1 := Lib.hid (blk_below x1.out q6)
          replace r2 := Lib.hid (rch_below r2.out q6)
          replace r4 := Lib.hid (rch_below r4.out q6)
          replace x4 := Lib.hid (blk_below x4.out q6)
          replace bq := Lib.hid (below_on bq.out q6)
          clear q6
          have x4_0 := blk_cell x4.out 0 _ rfl
          have x4_1 := blk_cell x4.out 1 _ rfl
          go_wp2_with fail
          refine (hspent0.out _ _ _ r4.out).mono ?_
          rintro e w7 ⟨rfl, q7⟩
          clear x4_0 x4_1
          replace rb := Lib.hid (rio_below rb.out q7)
          replace x1 := Lib.hid (blk_below x1.out q7)
          replace r2 := Lib.hid (rch_below r2.out q7)
          replace r4 := Lib.hid (rch_below r4.out q7)
          replace x4 := Lib.hid (blk_below x4.out q7)
          replace bq := Lib.hid (below_on bq.out q7)
          clear q7
          clear r4 x4
          have x1_0 := blk_cell x1.out 0 _ rfl
          have x1_1 := blk_cell x1.out 1 _ rfl
          go_wp2_with fail
          refine (hcount0.out _ _ _ (rch_z16 r2.out)).mono ?_
          rintro e w8 ⟨rfl, q8⟩
          clear x1_0 x1_1
          replace rb := Lib.hid (rio_below rb.out q8)
          replace x1 := Lib.hid (blk_below x1.out q8)
          replace r2 := Lib.hid (rch_below r2.out q8)
          replace bq := Lib.hid (below_on bq.out q8)
          clear q8
          go_wp2_with fail
          go_ret
          exact ⟨rfl, bq.out⟩
      · obtain rfl : b = [] := List.eq_nil_of_length_eq_zero (by omega)
        clear hok h1 hb hb1 hb2 hbl
        change Hid (RIo _ _ (.slice pb 0 cb) []) at rb
        change Calls _ _ #[.slice pb 0 cb, _] _ _
        rcases sh with _ | _
        · clear hclose
          go_enter Try.func8, Try.ntmps8
          go_wp2_with fail
          refine (hawake.out _).mono ?_
          rintro e w2 ⟨rfl, q2⟩
          replace rb := Lib.hid (rio_below rb.out q2)
          replace bq := Lib.hid (below_on bq.out q2)
          clear q2
          go_wp2_with fail
          refine (hput.out _ _ (rio_dn16 rb.out)).mono ?_
          rintro e w3 ⟨v1, rfl, r1, q3⟩
          replace rb := Lib.hid (rio_below rb.out q3)
          replace bq := Lib.hid (below_on bq.out q3)
          replace r1 := rch_mono (K := (fun j => j = w3.heap.size)) (rch_up r1) (fun j _ h => .inr (Nat.le_of_eq h.symm))
          obtain ⟨p1, k1, rfl, _⟩ := rch_form r1
          replace r1 : RCh (fun j => j = w3.heap.size) w3 (.agg #[.slice p1 0 k1, .bool false]) ⟨[], false⟩ := r1
          replace r1 := Lib.hid r1
          clear q3
          have l1 := bq.out.size
          replace rb := Lib.hid (rio_below rb.out (below_new w3 (.cells #[.slice p1 0 k1, .bool false] 28)))
          replace r1 := Lib.hid (rch_below r1.out (below_new w3 (.cells #[.slice p1 0 k1, .bool false] 28)))
          replace bq := Lib.hid (below_on bq.out (below_new w3 (.cells #[.slice p1 0 k1, .bool false] 28)))
          have x1 := Lib.hid (blk_new w3 #[.slice p1 0 k1, .bool false] 28)
          have x1_0 := blk_cell x1.out 0 _ rfl
          have x1_1 := blk_cell x1.out 1 _ rfl
          go_wp2_with fail
          refine (htakefalse.out _ _ (rch_z16 r1.out)).mono ?_
          rintro e w4 ⟨v4, u4, rfl, r4, s4, q4⟩
          clear x1_0 x1_1
          replace rb := Lib.hid (rio_below rb.out q4)
          replace r1 := Lib.hid (rch_below r1.out q4)
          replace x1 := Lib.hid (blk_below x1.out q4)
          replace bq := Lib.hid (below_on bq.out q4)
          obtain ⟨p4, k4, rfl, _⟩ := rch_form r4
          replace r4 : RCh N0 w4 (.agg #[.slice p4 0 k4, .bool false]) ⟨[], false⟩ := r4
          obtain ⟨a4, d4, rfl⟩ := ri_form s4.1
          replace r4 := Lib.hid r4
          clear s4
          clear q4
          replace rb := Lib.hid (rio_below rb.out (below_new w4 (.cells #[.slice p4 0 k4, .bool false] 28)))
          replace r1 := Lib.hid (rch_below r1.out (below_new w4 (.cells #[.slice p4 0 k4, .bool false] 28)))
          replace x1 := Lib.hid (blk_below x1.out (below_new w4 (.cells #[.slice p4 0 k4, .bool false] 28)))
          replace r4 := Lib.hid (rch_below r4.out (below_new w4 (.cells #[.slice p4 0 k4, .bool false] 28)))
          replace bq := Lib.hid (below_on bq.out (below_new w4 (.cells #[.slice p4 0 k4, .bool false] 28)))
          have x4 := Lib.hid (blk_new w4 #[.slice p4 0 k4, .bool false] 28)
          have x4_0 := blk_cell x4.out 0 _ rfl
          have x4_1 := blk_cell x4.out 1 _ rfl
          go_wp2_with fail
          refine (hcount0.out _ _ _ r4.out).mono ?_
          rintro e w5 ⟨rfl, q5⟩
          clear x4_0 x4_1
          replace rb := Lib.hid (rio_below rb.out q5)
          replace r1 := Lib.hid (rch_below r1.out q5)
          replace x1 := Lib.hid (blk_below x1.out q5)
          replace r4 := Lib.hid (rch_below r4.out q5)
          replace x4 := Lib.hid (blk_below x4.out q5)
          replace bq := Lib.hid (below_on bq.out q5)
          clear q5
          have x4_0 := blk_cell x4.out 0 _ rfl
          have x4_1 := blk_cell x4.out 1 _ rfl
          go_wp2_with fail
          refine (hspent0.out _ _ _ r4.out).mono ?_
          rintro e w6 ⟨rfl, q6⟩
          clear x4_0 x4_1
          replace rb := Lib.hid (rio_below rb.out q6)
          replace r1 := Lib.hid (rch_below r1.out q6)
          replace x1 := Lib.hid (blk_below x1.out q6)
          replace r4 := Lib.hid (rch_below r4.out q6)
          replace x4 := Lib.hid (blk_below x4.out q6)
          replace bq := Lib.hid (below_on bq.out q6)
          clear q6
          clear r4 x4
          have x1_0 := blk_cell x1.out 0 _ rfl
          have x1_1 := blk_cell x1.out 1 _ rfl
          go_wp2_with fail
          refine (hcount0.out _ _ _ (rch_z16 r1.out)).mono ?_
          rintro e w7 ⟨rfl, q7⟩
          clear x1_0 x1_1
          replace rb := Lib.hid (rio_below rb.out q7)
          replace r1 := Lib.hid (rch_below r1.out q7)
          replace x1 := Lib.hid (blk_below x1.out q7)
          replace bq := Lib.hid (below_on bq.out q7)
          clear q7
          go_wp2_with fail
          go_ret
          exact ⟨rfl, bq.out⟩
        · go_enter Try.func8, Try.ntmps8
          go_wp2_with fail
          refine (hawake.out _).mono ?_
          rintro e w2 ⟨rfl, q2⟩
          replace rb := Lib.hid (rio_below rb.out q2)
          replace bq := Lib.hid (below_on bq.out q2)
          clear q2
          go_wp2_with fail
          refine (hput.out _ _ (rio_dn16 rb.out)).mono ?_
          rintro e w3 ⟨v1, rfl, r1, q3⟩
          replace rb := Lib.hid (rio_below rb.out q3)
          replace bq := Lib.hid (below_on bq.out q3)
          replace r1 := rch_mono (K := (fun j => j = w3.heap.size)) (rch_up r1) (fun j _ h => .inr (Nat.le_of_eq h.symm))
          obtain ⟨p1, k1, rfl, _⟩ := rch_form r1
          replace r1 : RCh (fun j => j = w3.heap.size) w3 (.agg #[.slice p1 0 k1, .bool false]) ⟨[], false⟩ := r1
          replace r1 := Lib.hid r1
          clear q3
          have l1 := bq.out.size
          replace rb := Lib.hid (rio_below rb.out (below_new w3 (.cells #[.slice p1 0 k1, .bool false] 28)))
          replace r1 := Lib.hid (rch_below r1.out (below_new w3 (.cells #[.slice p1 0 k1, .bool false] 28)))
          replace bq := Lib.hid (below_on bq.out (below_new w3 (.cells #[.slice p1 0 k1, .bool false] 28)))
          have x1 := Lib.hid (blk_new w3 #[.slice p1 0 k1, .bool false] 28)
          have l0 := blk_lt x1.out
          have x1_0 := blk_cell x1.out 0 _ rfl
          have x1_1 := blk_cell x1.out 1 _ rfl
          go_wp2_with fail
          refine (hclose.out _ _ _ (fun j h => by rw [h]; exact l0) r1.out).mono ?_
          rintro e w4 ⟨v2, rfl, r2, q4⟩
          clear x1_0 x1_1
          replace rb := Lib.hid (rio_below rb.out q4)
          replace r1 := Lib.hid (rch_below r1.out q4)
          replace x1 := Lib.hid (blk_below x1.out q4)
          replace bq := Lib.hid (below_on bq.out q4)
          obtain ⟨p2, k2, rfl, _⟩ := rch_form r2
          replace r2 : RCh (fun j => j = w3.heap.size) w4 (.agg #[.slice p2 0 k2, .bool true]) ⟨[], true⟩ := r2
          replace r2 := Lib.hid r2
          clear q4
          clear r1
          have f0 := blk_thaw x1.out 0
          have f1 := blk_thaw x1.out 1
          have x1_0 := blk_cell x1.out 0 _ rfl
          have x1_1 := blk_cell x1.out 1 _ rfl
          go_upto_region 9 with (fail)
          clear f0 f1
          clear x1_0 x1_1
          replace rb := Lib.hid (rio_but rb.out (only_set2 _ (w3.heap.size) (.slice p2 0 k2) (.bool true) (.inr (by omega))))
          replace x1 := Lib.hid (blk_setAt16 (blk_setAt16 x1.out 0 (.slice p2 0 k2)) 1 (.bool true))
          replace r2 := Lib.hid (rch_but r2.out (only_set2 _ (w3.heap.size) (.slice p2 0 k2) (.bool true) rfl))
          replace bq := Lib.hid (below_set2 bq.out (show w.heap.size ≤ w3.heap.size by omega) (.slice p2 0 k2) (.bool true))
          have x1_0 := blk_cell x1.out 0 _ rfl
          have x1_1 := blk_cell x1.out 1 _ rfl
          go_wp2_with fail
          refine (htaketrue.out _ _ (rch_z16 r2.out)).mono ?_
          rintro e w5 ⟨v4, u4, rfl, r4, s4, q5⟩
          clear x1_0 x1_1
          replace rb := Lib.hid (rio_below rb.out q5)
          replace x1 := Lib.hid (blk_below x1.out q5)
          replace r2 := Lib.hid (rch_below r2.out q5)
          replace bq := Lib.hid (below_on bq.out q5)
          obtain ⟨p4, k4, rfl, _⟩ := rch_form r4
          replace r4 : RCh N0 w5 (.agg #[.slice p4 0 k4, .bool true]) ⟨[], true⟩ := r4
          obtain ⟨a4, d4, rfl⟩ := ri_form s4.1
          replace r4 := Lib.hid r4
          clear s4
          clear q5
          replace rb := Lib.hid (rio_below rb.out (below_new w5 (.cells #[.slice p4 0 k4, .bool true] 28)))
          replace x1 := Lib.hid (blk_below x1.out (below_new w5 (.cells #[.slice p4 0 k4, .bool true] 28)))
          replace r2 := Lib.hid (rch_below r2.out (below_new w5 (.cells #[.slice p4 0 k4, .bool true] 28)))
          replace r4 := Lib.hid (rch_below r4.out (below_new w5 (.cells #[.slice p4 0 k4, .bool true] 28)))
          replace bq := Lib.hid (below_on bq.out (below_new w5 (.cells #[.slice p4 0 k4, .bool true] 28)))
          have x4 := Lib.hid (blk_new w5 #[.slice p4 0 k4, .bool true] 28)
          have x4_0 := blk_cell x4.out 0 _ rfl
          have x4_1 := blk_cell x4.out 1 _ rfl
          go_wp2_with fail
          refine (hcount0.out _ _ _ r4.out).mono ?_
          rintro e w6 ⟨rfl, q6⟩
          clear x4_0 x4_1
          replace rb := Lib.hid (rio_below rb.out q6)
          replace x1 := Lib.hid (blk_below x1.out q6)
          replace r2 := Lib.hid (rch_below r2.out q6)
          replace r4 := Lib.hid (rch_below r4.out q6)
          replace x4 := Lib.hid (blk_below x4.out q6)
          replace bq := Lib.hid (below_on bq.out q6)
          clear q6
          have x4_0 := blk_cell x4.out 0 _ rfl
          have x4_1 := blk_cell x4.out 1 _ rfl
          go_wp2_with fail
          refine (hspent0.out _ _ _ r4.out).mono ?_
          rintro e w7 ⟨rfl, q7⟩
          clear x4_0 x4_1
          replace rb := Lib.hid (rio_below rb.out q7)
          replace x1 := Lib.hid (blk_below x1.out q7)
          replace r2 := Lib.hid (rch_below r2.out q7)
          replace r4 := Lib.hid (rch_below r4.out q7)
          replace x4 := Lib.hid (blk_below x4.out q7)
          replace bq := Lib.hid (below_on bq.out q7)
          clear q7
          clear r4 x4
          have x1_0 := blk_cell x1.out 0 _ rfl
          have x1_1 := blk_cell x1.out 1 _ rfl
          go_wp2_with fail
          refine (hcount0.out _ _ _ (rch_z16 r2.out)).mono ?_
          rintro e w8 ⟨rfl, q8⟩
          clear x1_0 x1_1
          replace rb := Lib.hid (rio_below rb.out q8)
          replace x1 := Lib.hid (blk_below x1.out q8)
          replace r2 := Lib.hid (rch_below r2.out q8)
          replace bq := Lib.hid (below_on bq.out q8)
          clear q8
          go_wp2_with fail
          go_ret
          exact ⟨rfl, bq.out⟩
  · have hb1 : 20 < b.length := by omega
    have hb2 : (20 : Int) < (b.length : Int) := by omega
    clear hS hP hT hC hE hN
    go_enter Try.func8, Try.ntmps8
    go_wp2_with fail
    refine (hawake.out _).mono ?_
    rintro e w2 ⟨rfl, q2⟩
    replace rb := Lib.hid (rio_below rb.out q2)
    replace bq := Lib.hid (below_on bq.out q2)
    clear q2
    go_wp2_with fail
    go_ret
    exact ⟨rfl, bq.out⟩
end Go.Proofs.Ytcbfgcmdlfediaa
