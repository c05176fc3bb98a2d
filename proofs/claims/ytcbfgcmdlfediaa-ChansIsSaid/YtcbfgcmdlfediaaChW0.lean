/- Layer 16: the statements' helpers ours, same, few; the document's example. -/
import Derived.Test.YtcbfgcmdlfediaaChS
import Derived.Test.YtcbfgcmdlfediaaChR5
namespace Go.Proofs.Ytcbfgcmdlfediaa
set_option linter.unusedSimpArgs false
set_option linter.unusedVariables false
open Go.RowKit Go.Lib
open Stg (Ch)
/-- no block -/
abbrev N0 : Nat → Prop := fun _ => False
set_option maxHeartbeats 1600000 in
theorem ours16_any (p : Option Addr) (n c : Nat) (b : Bool) (w : World) : Calls Try.prog 12 #[.agg #[.slice p n c, .bool b]] w fun e w' => e = .returned (.agg #[.slice p n c, .bool b]) ∧ Below w.heap.size w w' := by
  go_enter Try.func12, Try.ntmps12
  go_wp2_with fail
  refine bodyPost_ret (v := .agg #[.slice p n c, .bool b]) ?_ rfl ⟨rfl, (below_new w _).alloc (by simp) _⟩
  simp [results, Try.results12, go_sem]
/-- .. of what reads as a channel -/
theorem ours16 {J : Nat → Prop} {v : Value} {c : Ch} {w : World} (h : RCh J w v c) : Calls Try.prog 12 #[v] w fun e w' => e = .returned v ∧ Below w.heap.size w w' := by
  obtain ⟨p, cap, rfl, _⟩ := rch_form h
  exact ours16_any _ _ _ _ w
set_option maxHeartbeats 1600000 in
theorem lsame16 {J K : Nat → Prop} {va vb : Value} {a b : Ch} {w : World} (hfa : a.Few) (ha : RCh J w va a) (hb : RCh K w vb b) : Calls Try.prog 16 #[va, vb] w fun e w' => e = .returned (.bool (decide (a = b))) ∧ Below w.heap.size w w' := by
  have hs := fun W h1 h2 => rsame16 J K va vb a b W hfa h1 h2
  have hB : ∀ o1 o2, Below w.heap.size w ((w.alloc o1).alloc o2) := fun o1 o2 => (below_new w o1).alloc (by simp) o2
  have hca := Lib.hid (fun o1 o2 => hs _ (rch_below ha (hB o1 o2)) (rch_below hb (hB o1 o2)))
  obtain ⟨pa, ka, rfl, _⟩ := rch_form ha
  obtain ⟨pb, kb, rfl, _⟩ := rch_form hb
  obtain ⟨E, hE⟩ : ∃ E, decide (a = b) = E := ⟨_, rfl⟩
  rw [hE] at hca ⊢
  replace hB := Lib.hid hB
  clear hE hs
  go_enter Try.func16, Try.ntmps16
  go_wp2_with fail
  refine (hca.out _ _).mono ?_
  rintro e w1 ⟨rfl, q1⟩
  have q2 := Lib.hid (below_on (hB.out _ _) q1)
  clear q1
  go_wp2_with fail
  go_ret
  exact ⟨rfl, q2.out⟩
theorem put_of16 (h : PutC16) {J : Nat → Prop} {v : Value} {c : Ch} {vb : Value} {b : List Int} {w : World} {q : Ch × Bool} (e : Stg.putC c b = q) (ho : Old J w) (hf : c.Few) (hb : b.length ≤ 10000) (hv : RCh J w v c) (hvb : RIo J w vb b) : Calls Try.prog 11 #[v, vb] w (ToldCB J q w) := e ▸ h J v c vb b w ho hf hb hv hvb
theorem take_of16 (h : TakeC16) {J : Nat → Prop} {v : Value} {c : Ch} {w : World} {q : Ch × List Int × Bool} (e : Stg.takeC c = q) (ho : Old J w) (hf : c.Few) (hv : RCh J w v c) : Calls Try.prog 14 #[v] w (ToldCLB J q w) := e ▸ h J v c w ho hf hv
theorem cell_below16 {w w1 : World} {a : Addr} {u : Value} (h : w.cell? a = some u) (hb : Below w.heap.size w w1) : w1.cell? a = some u := by rw [hb.cell (World.block_lt_of_cell? _ _ h)]; exact h
theorem rio_below {J : Nat → Prop} {w w1 : World} {v : Value} {l : List Int} (h : RIo J w v l) (hs : Below w.heap.size w w1) : RIo J w1 v l := rio_but h (only_below hs)
theorem held2_16 {w w1 : World} {a0 a1 : Addr} {u0 u1 : Value} (hb : Below w.heap.size w w1) (h : w.cell? a0 = some u0 ∧ w.cell? a1 = some u1) : w1.cell? a0 = some u0 ∧ w1.cell? a1 = some u1 := ⟨cell_below16 h.1 hb, cell_below16 h.2 hb⟩
theorem held8_16 {w w1 : World} {a0 a1 a2 a3 a4 a5 a6 a7 : Addr} {u0 u1 u2 u3 u4 u5 u6 u7 : Value} (hb : Below w.heap.size w w1) (h : w.cell? a0 = some u0 ∧ w.cell? a1 = some u1 ∧ w.cell? a2 = some u2 ∧ w.cell? a3 = some u3 ∧ w.cell? a4 = some u4 ∧ w.cell? a5 = some u5 ∧ w.cell? a6 = some u6 ∧ w.cell? a7 = some u7) : w1.cell? a0 = some u0 ∧ w1.cell? a1 = some u1 ∧ w1.cell? a2 = some u2 ∧ w1.cell? a3 = some u3 ∧ w1.cell? a4 = some u4 ∧ w1.cell? a5 = some u5 ∧ w1.cell? a6 = some u6 ∧ w1.cell? a7 = some u7 := by
  obtain ⟨h0, h1, h2, h3, h4, h5, h6, h7⟩ := h
  exact ⟨cell_below16 h0 hb, cell_below16 h1 hb, cell_below16 h2 hb, cell_below16 h3 hb, cell_below16 h4 hb, cell_below16 h5 hb, cell_below16 h6 hb, cell_below16 h7 hb⟩
theorem only_set2 {J : Nat → Prop} (w : World) (k : Nat) (x y : Value) (h : J k) : OnlyIn J w ((w.setCell ⟨k, 0, none⟩ x).setCell ⟨k, 1, none⟩ y) := only_trans (only_set w ⟨k, 0, none⟩ x h) (only_set _ ⟨k, 1, none⟩ y h)
theorem below_set2 {n k : Nat} {w w1 : World} (h : Below n w w1) (hk : n ≤ k) (x y : Value) : Below n w ((w1.setCell ⟨k, 0, none⟩ x).setCell ⟨k, 1, none⟩ y) := (h.setCell (p := ⟨k, 0, none⟩) hk x).setCell (p := ⟨k, 1, none⟩) hk y
theorem blk_off2 {w : World} {k j : Nat} {cs : Array Value} {T : TypeId} (h : Blk w k cs T) (hne : j ≠ k) (x y : Value) : Blk ((w.setCell ⟨j, 0, none⟩ x).setCell ⟨j, 1, none⟩ y) k cs T := by
  unfold Blk at *
  rw [heap_setCell_other _ ⟨j, 1, none⟩ k y (fun e => hne e.symm), heap_setCell_other _ ⟨j, 0, none⟩ k x (fun e => hne e.symm)]
  exact h
theorem lsame_self16 {J K : Nat → Prop} {va vb : Value} {a : Ch} {w : World} (hfa : a.Few) (ha : RCh J w va a) (hb : RCh K w vb a) : Calls Try.prog 16 #[va, vb] w fun e w' => e = .returned (.bool true) ∧ Below w.heap.size w w' := by
  have := lsame16 hfa ha hb
  rw [show decide (a = a) = true from decide_eq_true rfl] at this
  exact this
theorem bne_selfB (b : Bool) : (b != b) = false := by cases b <;> rfl
theorem bne_selfB2 (b : Bool) : (!b == b) = false := by cases b <;> rfl
theorem beq_selfB (b : Bool) : (b == b) = true := by cases b <;> rfl
theorem old0 (w : World) : Old N0 w := fun _ h => h.elim
theorem lit0 (w : World) (l : List Int) (cs : Array Value) (k n : Nat) (hk : w.heap.size = k) (hn : n = l.length) (hcs : cs.toList = cellsI l) (hm : n ≤ maxLen) : RIo N0 (w.alloc (.cells cs 3)) (.slice (some ⟨k, 0, none⟩) n n) l := rio_of (ri_of_own (ownI_lit w.heap.size w l cs k n hk (by omega) hcs hn hm))
set_option maxHeartbeats 3200000 in
set_option maxRecDepth 100000 in
theorem awake16 (hS : SaneC16) (hP : PutC16) (hT : TakeC16) (hC : CountC16) (w : World) :
    Calls Try.prog 9 #[] w fun e w' => e = .returned (.bool true) ∧ Below w.heap.size w w' := by
  have fA : (⟨[], false⟩ : Ch).Few := few_sane (by decide +kernel)
  have fB : (⟨[[1, 2]], false⟩ : Ch).Few := few_sane (by decide +kernel)
  have fC : (⟨[[1, 2], [3]], false⟩ : Ch).Few := few_sane (by decide +kernel)
  have h1 := Lib.hid (fun W vb h => put_of16 hP (J := N0) (q := (⟨[[1, 2]], false⟩, true)) (w := W) (vb := vb) (show Stg.putC ⟨[], false⟩ [1, 2] = _ from by decide +kernel) (old0 _) fA (by simp) (rch_zero _ _) h)
  have h2 := Lib.hid (fun W v vb hv h => put_of16 hP (J := N0) (q := (⟨[[1, 2], [3]], false⟩, true)) (w := W) (v := v) (vb := vb) (show Stg.putC ⟨[[1, 2]], false⟩ [3] = _ from by decide +kernel) (old0 _) fB (by simp) hv h)
  have h3 := Lib.hid (fun W v vb hv h => put_of16 hP (J := N0) (q := (⟨[[1, 2], [3]], false⟩, false)) (w := W) (v := v) (vb := vb) (show Stg.putC ⟨[[1, 2], [3]], false⟩ [4] = _ from by decide +kernel) (old0 _) fC (by simp) hv h)
  have h4 := Lib.hid (fun W v hv => take_of16 hT (J := N0) (q := (⟨[[3]], false⟩, [1, 2], true)) (w := W) (v := v) (show Stg.takeC ⟨[[1, 2], [3]], false⟩ = _ from by decide +kernel) (old0 _) fC hv)
  have h5 : ∀ W v, RCh N0 W v ⟨[[1, 2], [3]], false⟩ → Calls Try.prog 24 #[v] W fun e w' => e = .returned (.int .i64 3) ∧ Below W.heap.size W w' := fun W v hv => hC N0 v _ W fC hv
  have h6 : ∀ W v, RCh N0 W v ⟨[[1, 2], [3]], false⟩ → Calls Try.prog 18 #[v] W fun e w' => e = .returned (.bool true) ∧ Below W.heap.size W w' := fun W v hv => hS N0 v _ W fC hv
  replace h5 := Lib.hid h5
  replace h6 := Lib.hid h6
  unfold ToldCB at h1 h2 h3
  unfold ToldCLB at h4
  clear hS hP hT hC
  have lA := Lib.hid (lit0 w [1, 2] #[.int .i64 1, .int .i64 2] w.heap.size 2 rfl rfl rfl (by unfold maxLen; omega))
  have bq := Lib.hid (Below.refl w.heap.size w)
  go_enter Try.func9, Try.ntmps9
  replace bq := Lib.hid (below_on bq.out (below_new w (.cells #[.int .i64 1, .int .i64 2] 3)))
  go_wp2_with fail
  refine (h1.out _ _ lA.out).mono ?_
  rintro e w2 ⟨v1, rfl, r1, q2⟩
  replace bq := Lib.hid (below_on bq.out q2)
  obtain ⟨p1, k1, rfl, _⟩ := rch_form r1
  replace r1 : RCh N0 w2 (.agg #[.slice p1 1 k1, .bool false]) _ := r1
  replace r1 := Lib.hid r1
  clear q2
  replace r1 := Lib.hid (rch_below r1.out (below_new w2 (.cells #[.slice p1 1 k1, .bool false] 28)))
  replace bq := Lib.hid (below_on bq.out (below_new w2 (.cells #[.slice p1 1 k1, .bool false] 28)))
  have x1 := Lib.hid (blk_new w2 #[.slice p1 1 k1, .bool false] 28)
  have lB := Lib.hid (lit0 (w2.alloc (.cells #[.slice p1 1 k1, .bool false] 28)) [3] #[.int .i64 3] (w2.heap.size + 1) 1 (by simp) rfl rfl (by unfold maxLen; omega))
  replace r1 := Lib.hid (rch_below r1.out (below_new (w2.alloc (.cells #[.slice p1 1 k1, .bool false] 28)) (.cells #[.int .i64 3] 3)))
  replace x1 := Lib.hid (blk_below x1.out (below_new (w2.alloc (.cells #[.slice p1 1 k1, .bool false] 28)) (.cells #[.int .i64 3] 3)))
  replace bq := Lib.hid (below_on bq.out (below_new (w2.alloc (.cells #[.slice p1 1 k1, .bool false] 28)) (.cells #[.int .i64 3] 3)))
  have x1_0 := blk_cell x1.out 0 _ rfl
  have x1_1 := blk_cell x1.out 1 _ rfl
  go_wp2_with fail
  refine (h2.out _ _ _ r1.out lB.out).mono ?_
  rintro e w3 ⟨v2, rfl, r2, q3⟩
  clear x1_0 x1_1
  replace r1 := Lib.hid (rch_below r1.out q3)
  replace x1 := Lib.hid (blk_below x1.out q3)
  replace bq := Lib.hid (below_on bq.out q3)
  obtain ⟨p2, k2, rfl, _⟩ := rch_form r2
  replace r2 : RCh N0 w3 (.agg #[.slice p2 2 k2, .bool false]) _ := r2
  replace r2 := Lib.hid r2
  clear q3
  clear r1 x1
  replace r2 := Lib.hid (rch_below r2.out (below_new w3 (.cells #[.slice p2 2 k2, .bool false] 28)))
  replace bq := Lib.hid (below_on bq.out (below_new w3 (.cells #[.slice p2 2 k2, .bool false] 28)))
  have x2 := Lib.hid (blk_new w3 #[.slice p2 2 k2, .bool false] 28)
  have lC := Lib.hid (lit0 (w3.alloc (.cells #[.slice p2 2 k2, .bool false] 28)) [4] #[.int .i64 4] (w3.heap.size + 1) 1 (by simp) rfl rfl (by unfold maxLen; omega))
  replace r2 := Lib.hid (rch_below r2.out (below_new (w3.alloc (.cells #[.slice p2 2 k2, .bool false] 28)) (.cells #[.int .i64 4] 3)))
  replace x2 := Lib.hid (blk_below x2.out (below_new (w3.alloc (.cells #[.slice p2 2 k2, .bool false] 28)) (.cells #[.int .i64 4] 3)))
  replace bq := Lib.hid (below_on bq.out (below_new (w3.alloc (.cells #[.slice p2 2 k2, .bool false] 28)) (.cells #[.int .i64 4] 3)))
  have x2_0 := blk_cell x2.out 0 _ rfl
  have x2_1 := blk_cell x2.out 1 _ rfl
  go_wp2_with fail
  refine (h3.out _ _ _ r2.out lC.out).mono ?_
  rintro e w4 ⟨v3, rfl, r3, q4⟩
  clear x2_0 x2_1
  replace r2 := Lib.hid (rch_below r2.out q4)
  replace x2 := Lib.hid (blk_below x2.out q4)
  replace bq := Lib.hid (below_on bq.out q4)
  obtain ⟨p3, k3, rfl, _⟩ := rch_form r3
  clear r3
  clear q4
  replace r2 := Lib.hid (rch_below r2.out (below_new w4 (.cells #[.slice p3 2 k3, .bool false] 28)))
  replace x2 := Lib.hid (blk_below x2.out (below_new w4 (.cells #[.slice p3 2 k3, .bool false] 28)))
  replace bq := Lib.hid (below_on bq.out (below_new w4 (.cells #[.slice p3 2 k3, .bool false] 28)))
  have x2_0 := blk_cell x2.out 0 _ rfl
  have x2_1 := blk_cell x2.out 1 _ rfl
  go_wp2_with fail
  refine (h4.out _ _ r2.out).mono ?_
  rintro e w5 ⟨v4, vb, rfl, r4, rb, q5⟩
  clear x2_0 x2_1
  replace r2 := Lib.hid (rch_below r2.out q5)
  replace x2 := Lib.hid (blk_below x2.out q5)
  replace bq := Lib.hid (below_on bq.out q5)
  obtain ⟨p4, k4, rfl, _⟩ := rch_form r4
  obtain ⟨pb, kb, rfl⟩ := ri_form rb.1
  obtain ⟨bb, ob, rfl, hbb, hcb⟩ := ri_at rb.1 (by simp)
  have y0 : w5.cell? ⟨bb, ob, none⟩ = some (.int .i64 1) := hcb 0 (by simp)
  have y1 : w5.cell? ⟨bb, ob + 1, none⟩ = some (.int .i64 2) := hcb 1 (by simp)
  replace y0 := Lib.hid y0
  replace y1 := Lib.hid y1
  clear r4 rb hcb hbb
  clear q5
  replace r2 := Lib.hid (rch_below r2.out (below_new w5 (.cells #[.slice p4 1 k4, .bool false] 28)))
  replace x2 := Lib.hid (blk_below x2.out (below_new w5 (.cells #[.slice p4 1 k4, .bool false] 28)))
  replace y0 := Lib.hid (cell_below16 y0.out (below_new w5 (.cells #[.slice p4 1 k4, .bool false] 28)))
  replace y1 := Lib.hid (cell_below16 y1.out (below_new w5 (.cells #[.slice p4 1 k4, .bool false] 28)))
  replace bq := Lib.hid (below_on bq.out (below_new w5 (.cells #[.slice p4 1 k4, .bool false] 28)))
  have x2_0 := blk_cell x2.out 0 _ rfl
  have x2_1 := blk_cell x2.out 1 _ rfl
  have z0 := y0.out
  have z1 := y1.out
  go_wp2_with fail
  refine (h5.out _ _ r2.out).mono ?_
  rintro e w6 ⟨rfl, q6⟩
  clear x2_0 x2_1
  replace r2 := Lib.hid (rch_below r2.out q6)
  replace x2 := Lib.hid (blk_below x2.out q6)
  replace y0 := Lib.hid (cell_below16 y0.out q6)
  replace y1 := Lib.hid (cell_below16 y1.out q6)
  replace bq := Lib.hid (below_on bq.out q6)
  clear z0 z1
  clear q6
  have x2_0 := blk_cell x2.out 0 _ rfl
  have x2_1 := blk_cell x2.out 1 _ rfl
  go_wp2_with fail
  refine (h6.out _ _ r2.out).mono ?_
  rintro e w7 ⟨rfl, q7⟩
  clear x2_0 x2_1
  replace r2 := Lib.hid (rch_below r2.out q7)
  replace x2 := Lib.hid (blk_below x2.out q7)
  replace y0 := Lib.hid (cell_below16 y0.out q7)
  replace y1 := Lib.hid (cell_below16 y1.out q7)
  replace bq := Lib.hid (below_on bq.out q7)
  clear q7
  go_wp2_with fail
  go_ret
  exact ⟨rfl, bq.out⟩
end Go.Proofs.Ytcbfgcmdlfediaa
