/- Layer 11: the document's Next. -/
import Derived.Test.YtbkgjbpnogcjeaaClR2
import Derived.Test.YtbkgjbpnogcjeaaCl4
namespace Go.Proofs.Ytbkgjbpnogcjeaa
set_option linter.unusedSimpArgs false
set_option linter.unusedVariables false
open Go.RowKit Go.Lib

set_option maxHeartbeats 6400000 in
set_option maxRecDepth 100000 in
theorem rnext11_any (s : Clu.CS) (r : Int) (w : World) : Calls Try.prog 26 #[csV s, .int .i64 r] w fun e w' => e = .returned (csV (Clu.nextI s r)) ∧ Below w.heap.size w w' := by
  have hsane := fun W => rsane11_any s W
  obtain ⟨R, hR⟩ : ∃ R, Clu.nextI s r = R := ⟨_, rfl⟩
  rw [hR]
  unfold Clu.nextI Clu.nextK at hR
  obtain ⟨S, hS⟩ : ∃ S, Clu.saneB s = S := ⟨_, rfl⟩
  rw [hS] at hR hsane
  obtain ⟨g, hg⟩ : ∃ g, Prp.gcbI r = g := ⟨_, rfl⟩
  have hgcb := fun W => rgcb_any r W
  rw [hg] at hR hgcb
  obtain ⟨on, k, p, o⟩ := s
  dsimp only at hR
  unfold csV at hsane ⊢
  dsimp only at hsane ⊢
  have hb0 := blk_new w #[.bool on, .int .i64 k, .bool p, .bool o] 24
  have hb := blk_alloc hb0 (.cells #[.bool false, .int .i64 0, .bool false, .bool false] 24)
  have hres := blk_new (w.alloc (.cells #[.bool on, .int .i64 k, .bool p, .bool o] 24)) #[.bool false, .int .i64 0, .bool false, .bool false] 24
  rw [show (w.alloc (.cells #[.bool on, .int .i64 k, .bool p, .bool o] 24)).heap.size = w.heap.size + 1 by simp] at hres
  have hbel : Below w.heap.size w ((w.alloc (.cells #[.bool on, .int .i64 k, .bool p, .bool o] 24)).alloc (.cells #[.bool false, .int .i64 0, .bool false, .bool false] 24)) := (below_new w _).alloc (by simp) _
  replace hbel := Lib.hid hbel
  replace hres := Lib.hid hres
  clear hb0
  replace hsane := Lib.hid hsane
  replace hgcb := Lib.hid hgcb
  replace hR := Lib.hid hR
  clear hS hg
  replace hb := Lib.hid hb
  go_enter Try.func26, Try.ntmps26
  go_wp2_with fail
  refine (hsane.out _).mono ?_
  rintro e w1 ⟨rfl, hb1⟩
  have hbx1 := blk_below hb.out hb1
  have hrs1 := Lib.hid (blk_below hres.out hb1)
  have b0 := blk_cell hbx1 0 (.bool on) rfl
  have b1 := blk_cell hbx1 1 (.int .i64 k) rfl
  have b2 := blk_cell hbx1 2 (.bool p) rfl
  have b3 := blk_cell hbx1 3 (.bool o) rfl
  replace hb1 := Lib.hid (below_on hbel.out hb1)
  have f0 := blk_thaw hbx1 0
  have f1 := blk_thaw hbx1 1
  have f2 := blk_thaw hbx1 2
  have f3 := blk_thaw hbx1 3
  replace hbx1 := Lib.hid hbx1
  clear hb hbel hres
  rcases S with _ | _
  · have hbx3 := Lib.hid (blk_set4 hbx1.out (.bool false) (.int .i64 0) (.bool false) (.bool false))
    have hrs3 := Lib.hid (blk_other4 (j := w.heap.size) hrs1.out (.bool false) (.int .i64 0) (.bool false) (.bool false) (by omega))
    have hb3 := Lib.hid (below_set4 hb1.out (Nat.le_refl _) (.bool false) (.int .i64 0) (.bool false) (.bool false))
    go_wp2_with fail
    clear f0 f1 f2 f3
    
    refine (hgcb.out _).mono ?_
    rintro e w2 ⟨rfl, hb2⟩
    have hbx2 := blk_below hbx3.out hb2
    have hrs2 := blk_below hrs3.out hb2
    have f0 := blk_thaw hrs2 0
    have f1 := blk_thaw hrs2 1
    have f2 := blk_thaw hrs2 2
    have f3 := blk_thaw hrs2 3
    have d0 := blk_cell hrs2 0 (.bool false) rfl
    have d1 := blk_cell hrs2 1 (.int .i64 0) rfl
    have d2 := blk_cell hrs2 2 (.bool false) rfl
    have d3 := blk_cell hrs2 3 (.bool false) rfl
    have c0 := blk_cell hbx2 0 (.bool false) rfl
    have c1 := blk_cell hbx2 1 (.int .i64 0) rfl
    have c2 := blk_cell hbx2 2 (.bool false) rfl
    have c3 := blk_cell hbx2 3 (.bool false) rfl
    replace hb2 := Lib.hid (below_on hb3.out hb2)
    clear b0 b1 b2 b3 hbx2
    clear hb1 hbx1 hrs1 hb3 hbx3 hrs3
    replace hrs2 := Lib.hid hrs2
    go_wp2_with fail
    all_goals
      refine bodyPost_ret (v := .agg #[.bool R.on, .int .i64 R.kind, .bool R.pict, .bool R.odd]) ?_ rfl ⟨rfl, below_set4 hb2.out (Nat.le_succ _) _ _ _ _⟩
      have q0 := fun x0 x1 x2 x3 => (set4_cell hrs2.out x0 x1 x2 x3).1
      have q1 := fun x0 x1 x2 x3 => (set4_cell hrs2.out x0 x1 x2 x3).2.1
      have q2 := fun x0 x1 x2 x3 => (set4_cell hrs2.out x0 x1 x2 x3).2.2.1
      have q3 := fun x0 x1 x2 x3 => (set4_cell hrs2.out x0 x1 x2 x3).2.2.2
      rw [← hR.out]
      clear hR hb2 hrs2 c0 c1 c2 c3 d0 d1 d2 d3 f0 f1 f2 f3 hgcb hsane
      simp [results, Try.results26, go_sem, q0, q1, q2, q3]
      clear q0 q1 q2 q3
      have bne5 : (k != 5) = !decide (k = 5) := by rw [Bool.eq_iff_iff]; simp
      all_goals first | (simp [*]; done) | (simp_all; done) | (simp_all; omega) | (simp_all [Clu.zero, bne5]; done) | (simp_all [Clu.zero, bne5]; omega) | (trace_state; sorry)
  · clear f0 f1 f2 f3
    go_wp2_with fail
    
    refine (hgcb.out _).mono ?_
    rintro e w2 ⟨rfl, hb2⟩
    have hbx2 := blk_below hbx1.out hb2
    have hrs2 := blk_below hrs1.out hb2
    have f0 := blk_thaw hrs2 0
    have f1 := blk_thaw hrs2 1
    have f2 := blk_thaw hrs2 2
    have f3 := blk_thaw hrs2 3
    have d0 := blk_cell hrs2 0 (.bool false) rfl
    have d1 := blk_cell hrs2 1 (.int .i64 0) rfl
    have d2 := blk_cell hrs2 2 (.bool false) rfl
    have d3 := blk_cell hrs2 3 (.bool false) rfl
    have c0 := blk_cell hbx2 0 (.bool on) rfl
    have c1 := blk_cell hbx2 1 (.int .i64 k) rfl
    have c2 := blk_cell hbx2 2 (.bool p) rfl
    have c3 := blk_cell hbx2 3 (.bool o) rfl
    replace hb2 := Lib.hid (below_on hb1.out hb2)
    clear b0 b1 b2 b3 hbx2
    clear hb1 hbx1 hrs1
    replace hrs2 := Lib.hid hrs2
    go_wp2_with fail
    all_goals
      refine bodyPost_ret (v := .agg #[.bool R.on, .int .i64 R.kind, .bool R.pict, .bool R.odd]) ?_ rfl ⟨rfl, below_set4 hb2.out (Nat.le_succ _) _ _ _ _⟩
      have q0 := fun x0 x1 x2 x3 => (set4_cell hrs2.out x0 x1 x2 x3).1
      have q1 := fun x0 x1 x2 x3 => (set4_cell hrs2.out x0 x1 x2 x3).2.1
      have q2 := fun x0 x1 x2 x3 => (set4_cell hrs2.out x0 x1 x2 x3).2.2.1
      have q3 := fun x0 x1 x2 x3 => (set4_cell hrs2.out x0 x1 x2 x3).2.2.2
      rw [← hR.out]
      clear hR hb2 hrs2 c0 c1 c2 c3 d0 d1 d2 d3 f0 f1 f2 f3 hgcb hsane
      simp [results, Try.results26, go_sem, q0, q1, q2, q3]
      clear q0 q1 q2 q3
      have bne5 : (k != 5) = !decide (k = 5) := by rw [Bool.eq_iff_iff]; simp
      all_goals first | (simp [*]; done) | (simp_all; done) | (simp_all; omega) | (simp_all [Clu.zero, bne5]; done) | (simp_all [Clu.zero, bne5]; omega) | (trace_state; sorry)

end Go.Proofs.Ytbkgjbpnogcjeaa
