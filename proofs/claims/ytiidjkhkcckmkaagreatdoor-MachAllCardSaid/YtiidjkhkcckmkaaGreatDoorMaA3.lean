/- Layer 15: the code's known; what a State that may be is. -/
import Derived.Test.YtiidjkhkcckmkaaGreatDoorMaA2
import Derived.Test.YtiidjkhkcckmkaaGreatDoorMaG
namespace Go.Proofs.YtiidjkhkcckmkaaGreatDoor
set_option linter.unusedSimpArgs false
set_option linter.unusedVariables false
open Go.RowKit Go.Lib
open Mch (MS)
/-- the machine that may be: what was handed in, or a new one -/
def Known15 (v : Value) (m : MS) (w : World) (e : Ending) (w' : World) : Prop := ∃ va, e = .returned va ∧ RM w' va (Mch.asM m) ∧ (∀ j, OffM j v → OffM j va) ∧ Below w.heap.size w w'
set_option maxHeartbeats 6400000 in
set_option maxRecDepth 100000 in
theorem known15_any (v : Value) (m : MS) (w : World) (hT : Tabs w) (hs : Mch.Small m) (hv : RM w v m) : Calls Tryz.prog 28 #[v] w (Known15 v m w) := by
  have hv0 := hv
  obtain ⟨vn, vg, vc, rfl, hvn, hvg, hvc⟩ := hv
  obtain ⟨pn, cn, rfl⟩ := ri_form hvn
  obtain ⟨pg, cg, rfl⟩ := ri_form hvg
  obtain ⟨pc, cc, rfl⟩ := ri_form hvc
  have hbox0 := blk_new w #[.int .i64 m.kind, .string ⟨m.d.toArray⟩, .slice pn m.n.length cn, .slice pg m.g.length cg, .bool m.s.on, .int .i64 m.s.kind, .bool m.s.pict, .bool m.s.odd, .slice pc m.c.length cc] 41
  have hbox := blk_alloc hbox0 (.cells (bare9 0) 41)
  have hres := blk_new (w.alloc (.cells #[.int .i64 m.kind, .string ⟨m.d.toArray⟩, .slice pn m.n.length cn, .slice pg m.g.length cg, .bool m.s.on, .int .i64 m.s.kind, .bool m.s.pict, .bool m.s.odd, .slice pc m.c.length cc] 41)) (bare9 0) 41
  rw [World.size_alloc] at hres
  have hb0 := (below_new w (.cells #[.int .i64 m.kind, .string ⟨m.d.toArray⟩, .slice pn m.n.length cn, .slice pg m.g.length cg, .bool m.s.on, .int .i64 m.s.kind, .bool m.s.pict, .bool m.s.odd, .slice pc m.c.length cc] 41)).alloc (by simp) (.cells (bare9 0) 41)
  obtain ⟨W, hW⟩ : ∃ W, (w.alloc (.cells #[.int .i64 m.kind, .string ⟨m.d.toArray⟩, .slice pn m.n.length cn, .slice pg m.g.length cg, .bool m.s.on, .int .i64 m.s.kind, .bool m.s.pict, .bool m.s.odd, .slice pc m.c.length cc] 41)).alloc (.cells (bare9 0) 41) = W := ⟨_, rfl⟩
  rw [hW] at hbox hres hb0
  clear hbox0
  replace hW := Lib.hid hW
  have hsane := sane15_any _ m W (tabs_below15 hT hb0) hs (rm_below hv0 hb0)
  have hnew := fun W' => new15_any m.kind W'
  have hM1 : Mch.saneM m = true → Mch.asM m = m := Mch.as_same
  have hM2 : Mch.saneM m = false → Mch.asM m = Mch.bare (if 0 ≤ m.kind ∧ m.kind ≤ 4 then m.kind else 0) := fun h => by unfold Mch.asM; rw [if_neg (by rw [h]; simp)]; rfl
  obtain ⟨nk, hnk⟩ : ∃ nk, (if 0 ≤ m.kind ∧ m.kind ≤ 4 then m.kind else 0) = nk := ⟨_, rfl⟩
  rw [hnk] at hM2 hnew
  obtain ⟨M, hM⟩ : ∃ M, Mch.asM m = M := ⟨_, rfl⟩
  unfold Known15
  rw [hM] at hM1 hM2 ⊢
  obtain ⟨b, hb⟩ : ∃ b, Mch.saneM m = b := ⟨_, rfl⟩
  rw [hb] at hsane hM1 hM2
  unfold mchV strV at hsane ⊢
  replace hsane := Lib.hid hsane
  replace hnew := Lib.hid hnew
  replace hM1 := Lib.hid hM1
  replace hM2 := Lib.hid hM2
  replace hbox := Lib.hid hbox
  replace hres := Lib.hid hres
  replace hb0 := Lib.hid hb0
  replace hv0 := Lib.hid hv0
  replace hvn := Lib.hid hvn
  replace hvg := Lib.hid hvg
  replace hvc := Lib.hid hvc
  clear hM hb hnk hs hT
  go_enter Tryz.func28, Tryz.ntmps28
  go_upto_region 1 with (fail)
  rw [hW.out]
  obtain ⟨k0, k1, k2, k3, k4, k5, k6, k7, k8⟩ := held9 hbox.out
  go_wp2_with fail
  refine hsane.out.mono ?_
  rintro e w1 ⟨rfl, q1⟩
  have x1 := Lib.hid (blk_below hbox.out q1)
  have r1 := Lib.hid (blk_below hres.out q1)
  have b1 := Lib.hid (below_on hb0.out q1)
  clear q1 k0 k1 k2 k3 k4 k5 k6 k7 k8
  obtain ⟨k0, k1, k2, k3, k4, k5, k6, k7, k8⟩ := held9 x1.out
  rcases b with _ | _
  · obtain rfl := hM2.out rfl
    go_wp2_with fail
    refine (hnew.out _).mono ?_
    rintro e w2 ⟨rfl, q2⟩
    have r2 := blk_below r1.out q2
    have b2 := Lib.hid (below_on b1.out q2)
    clear q2
    obtain ⟨y0, y1, y2, y3, y4, y5, y6, y7, y8⟩ := held9 r2
    have fy0 := blk_thaw r2 0
    have fy1 := blk_thaw r2 1
    have fy2 := blk_thaw r2 2
    have fy3 := blk_thaw r2 3
    have fy4 := blk_thaw r2 4
    have fy5 := blk_thaw r2 5
    have fy6 := blk_thaw r2 6
    have fy7 := blk_thaw r2 7
    have fy8 := blk_thaw r2 8
    replace r2 := Lib.hid r2
    go_wp2_with fail
    have n9 := blk_set9 r2.out (.int .i64 nk) (.string ⟨#[]⟩) nilV nilV (.bool false) (.int .i64 0) (.bool false) (.bool false) nilV
    unfold set9 at n9
    have hb9 := below_set9 b2.out (Nat.le_succ w.heap.size) (.int .i64 nk) (.string ⟨#[]⟩) nilV nilV (.bool false) (.int .i64 0) (.bool false) (.bool false) nilV
    unfold set9 at hb9
    obtain ⟨z0, z1, z2, z3, z4, z5, z6, z7, z8⟩ := held9 n9
    refine bodyPost_ret (v := .agg (bare9 nk)) ?_ rfl ⟨_, rfl, ⟨nilV, nilV, nilV, rfl, .inl ⟨rfl, rfl⟩, .inl ⟨rfl, rfl⟩, .inl ⟨rfl, rfl⟩⟩, fun j _ => (offM_iff j (Mch.bare nk) _ _ _).2 ⟨off_nil j, off_nil j, off_nil j⟩, hb9⟩
    simp [results, Tryz.results28, go_sem, z0, z1, z2, z3, z4, z5, z6, z7, z8]
  · obtain rfl := hM1.out rfl
    have r1' := r1.out
    obtain ⟨y0, y1, y2, y3, y4, y5, y6, y7, y8⟩ := held9 r1'
    have fy0 := blk_thaw r1' 0
    have fy1 := blk_thaw r1' 1
    have fy2 := blk_thaw r1' 2
    have fy3 := blk_thaw r1' 3
    have fy4 := blk_thaw r1' 4
    have fy5 := blk_thaw r1' 5
    have fy6 := blk_thaw r1' 6
    have fy7 := blk_thaw r1' 7
    have fy8 := blk_thaw r1' 8
    clear r1'
    go_wp2_with fail
    have n9 := blk_set9 r1.out (.int .i64 M.kind) (.string ⟨M.d.toArray⟩) (.slice pn M.n.length cn) (.slice pg M.g.length cg) (.bool M.s.on) (.int .i64 M.s.kind) (.bool M.s.pict) (.bool M.s.odd) (.slice pc M.c.length cc)
    unfold set9 at n9
    have hb9 := below_set9 b1.out (Nat.le_succ w.heap.size) (.int .i64 M.kind) (.string ⟨M.d.toArray⟩) (.slice pn M.n.length cn) (.slice pg M.g.length cg) (.bool M.s.on) (.int .i64 M.s.kind) (.bool M.s.pict) (.bool M.s.odd) (.slice pc M.c.length cc)
    unfold set9 at hb9
    obtain ⟨z0, z1, z2, z3, z4, z5, z6, z7, z8⟩ := held9 n9
    refine bodyPost_ret (v := .agg #[.int .i64 M.kind, .string ⟨M.d.toArray⟩, .slice pn M.n.length cn, .slice pg M.g.length cg, .bool M.s.on, .int .i64 M.s.kind, .bool M.s.pict, .bool M.s.odd, .slice pc M.c.length cc]) ?_ rfl ⟨_, rfl, rm_below hv0.out hb9, fun j h => h, hb9⟩
    simp [results, Tryz.results28, go_sem, z0, z1, z2, z3, z4, z5, z6, z7, z8]
end Go.Proofs.YtiidjkhkcckmkaaGreatDoor
