/- Layer 15: the code's decode, norm, fold, segment, frame. -/
import Derived.Test.YtiidjkhkcckmkaaGreatDoorMaA3
import Derived.Test.YtiidjkhkcckmkaaGreatDoorFoP
import Derived.Test.YtiidjkhkcckmkaaGreatDoorNoQ
import Derived.Test.YtiidjkhkcckmkaaGreatDoorSgP
import Derived.Test.YtiidjkhkcckmkaaGreatDoorFrP
import Derived.Test.YtiidjkhkcckmkaaGreatDoorMaW0
import Derived.Test.YtiidjkhkcckmkaaGreatDoorBasP
namespace Go.Proofs.YtiidjkhkcckmkaaGreatDoor
set_option linter.unusedSimpArgs false
set_option linter.unusedVariables false
open Go.RowKit Go.Lib
open Mch (MS)
theorem seg_zero15 {s : Clu.CS} (h : Sgm.saneB [] s = true) : s = Clu.zero := by
  have h1 := seg_off15 h
  unfold Sgm.saneB Clu.saneB at h
  simp [h1] at h
  exact h
theorem seg_told15 (l : List Int) (s : Clu.CS) (r : Int) : (Sgm.feedI l s r).2.length ≤ 32 := by
  rw [well_feed]
  have h := well_len l s
  unfold Sgm.stepI
  split
  · exact h
  · simp
/-- Framer keeps C alone -/
theorem only_c15 {m : MS} (h : Mch.Sane m) (h4 : m.kind = 4) : m = { Mch.bare 4 with c := m.c } := by
  have hd := h.d0.resolve_left (by omega)
  have hn := (h.n0.resolve_left (by omega)).resolve_left (by omega)
  have hg := h.g0.resolve_left (by omega)
  have hs := h.g
  rw [hg.1] at hs
  have hz := seg_zero15 hs
  obtain ⟨k, d, n, g, s, c⟩ := m
  simp only at *
  subst h4 hd hn hz
  rw [hg.1]
  rfl
set_option maxHeartbeats 6400000 in
set_option maxRecDepth 100000 in
theorem decode15_any (v : Value) (m : MS) (x : Int) (w : World) (hT : Tabs w) (h0 : m.kind = 0) (hsn : Mch.Sane m) (hv : RM w v m) : Calls Tryz.prog 29 #[v, .int .i64 x] w (FedM v (Mch.feedK m x) w) := by
  have hv0 := hv
  obtain ⟨vn, vg, vc, rfl, hvn, hvg, hvc⟩ := hv
  obtain ⟨pn, cn, rfl⟩ := ri_form hvn
  obtain ⟨pg, cg, rfl⟩ := ri_form hvg
  obtain ⟨pc, cc, rfl⟩ := ri_form hvc
  have hbox0 := blk_new w #[.int .i64 m.kind, .string ⟨m.d.toArray⟩, .slice pn m.n.length cn, .slice pg m.g.length cg, .bool m.s.on, .int .i64 m.s.kind, .bool m.s.pict, .bool m.s.odd, .slice pc m.c.length cc] 41
  have hbox := blk_alloc hbox0 (.cells (bare9 0) 41)
  have hres := blk_new (w.alloc (.cells #[.int .i64 m.kind, .string ⟨m.d.toArray⟩, .slice pn m.n.length cn, .slice pg m.g.length cg, .bool m.s.on, .int .i64 m.s.kind, .bool m.s.pict, .bool m.s.odd, .slice pc m.c.length cc] 41)) (bare9 0) 41
  rw [World.size_alloc] at hres
  have hb0 := (below_new w (.cells #[.int .i64 m.kind, .string ⟨m.d.toArray⟩, .slice pn m.n.length cn, .slice pg m.g.length cg, .bool m.s.on, .int .i64 m.s.kind, .bool m.s.pict, .bool m.s.odd, .slice pc m.c.length cc] 41)).alloc (by simp) (.cells (bare9 0) 41)
  obtain ⟨W, hW⟩ : ∃ W, (w.alloc (.cells #[.int .i64 m.kind, .string ⟨m.d.toArray⟩, .slice pn m.n.length cn, .slice pg m.g.length cg, .bool m.s.on, .int .i64 m.s.kind, .bool m.s.pict, .bool m.s.odd, .slice pc m.c.length cc] 41)).alloc (.cells (bare9 0) 41) = W := ⟨_, rfl⟩
  rw [hW] at hbox hres hb0
  clear hbox0
  replace hW := Lib.hid hW
  obtain ⟨F1, F2, hF⟩ : ∃ a b, Dec.feedL m.d (Mch.byteOf x) = (a, b) := ⟨_, _, rfl⟩
  have hfk : Mch.feedK m x = ({ Mch.bare 0 with d := F1 }, F2) := by unfold Mch.feedK; rw [if_pos h0, hF]
  rw [hfk]
  have hby := byte_wrap15 x
  have hfd := fun W' hT' => Tx.feed_any ⟨m.d.toArray⟩ (Mch.byteOf x) W' hT'
  rw [Dec.feed_eq, hF] at hfd
  dsimp only at hfd
  have hTW := tabs_below15 hT hb0
  unfold mchV strV
  replace hfd := Lib.hid hfd
  replace hTW := Lib.hid hTW
  replace hbox := Lib.hid hbox
  replace hres := Lib.hid hres
  replace hb0 := Lib.hid hb0
  replace hv0 := Lib.hid hv0
  replace hvn := Lib.hid hvn
  replace hvg := Lib.hid hvg
  replace hvc := Lib.hid hvc
  replace h0 := Lib.hid h0
  replace hsn := Lib.hid hsn
  clear hF hfk hT
  go_enter Tryz.func29, Tryz.ntmps29
  go_upto_region 1 with (fail)
  rw [hW.out]
  obtain ⟨k0, k1, k2, k3, k4, k5, k6, k7, k8⟩ := held9 hbox.out
  go_wp2_with (go_at_call 57; refine (hfd.out _ hTW.out).mono ?_; rintro e w3 ⟨vt, rfl, hot, q3⟩; have hot := ownI_mono (show OwnI _ vt F2 w3 from hot) hb0.out.size; obtain ⟨pt, ct, rfl⟩ := ri_form (ri_of_own hot); have r3 := blk_alloc (blk_below hres.out q3) (.cells #[.string ⟨F1.toArray⟩] 35); have b3 := Lib.hid ((below_on hb0.out q3).alloc (below_on hb0.out q3).size (.cells #[.string ⟨F1.toArray⟩] 35)); have o3 := Lib.hid (ownI_alloc hot (.cells #[.string ⟨F1.toArray⟩] 35)); obtain ⟨y0, y1, y2, y3, y4, y5, y6, y7, y8⟩ := held9 r3; have fy0 := blk_thaw r3 0; have fy1 := blk_thaw r3 1; have fy2 := blk_thaw r3 2; have fy3 := blk_thaw r3 3; have fy4 := blk_thaw r3 4; have fy5 := blk_thaw r3 5; have fy6 := blk_thaw r3 6; have fy7 := blk_thaw r3 7; have fy8 := blk_thaw r3 8; replace r3 := Lib.hid r3; clear q3)
  have e3 := r3.out
  have hfin := fed_gen (v := mchV m (.slice pn m.n.length cn) (.slice pg m.g.length cg) (.slice pc m.c.length cc)) (q := ({ Mch.bare 0 with d := F1 }, F2)) r3.out (Nat.le_succ w.heap.size) ⟨ri_nil15 _, at_nil _ _ _⟩ ⟨ri_nil15 _, at_nil _ _ _⟩ ⟨ri_nil15 _, at_nil _ _ _⟩ ⟨ri_of_own o3.out, at_own o3.out e3⟩ b3.out
  unfold set9 strV at hfin
  have r3' := r3.out
  have n9 := blk_set9 r3' (.int .i64 0) (.string ⟨F1.toArray⟩) nilV nilV (.bool false) (.int .i64 0) (.bool false) (.bool false) nilV
  unfold set9 at n9
  obtain ⟨z0, z1, z2, z3, z4, z5, z6, z7, z8⟩ := held9 n9
  refine bodyPost_ret (v := .tuple #[.agg #[(.int .i64 0), (.string ⟨F1.toArray⟩), nilV, nilV, (.bool false), (.int .i64 0), (.bool false), (.bool false), nilV], .slice pt F2.length ct]) ?_ rfl ?_
  · simp [results, Tryz.results29, go_sem, z0, z1, z2, z3, z4, z5, z6, z7, z8]
  · exact hfin
set_option maxHeartbeats 6400000 in
set_option maxRecDepth 100000 in
theorem norm15_any (v : Value) (m : MS) (x : Int) (w : World) (h0 : m.kind = 1) (hsn : Mch.Sane m) (hsm : Mch.Small m) (hv : RM w v m) : Calls Tryz.prog 30 #[v, .int .i64 x] w (FedM v (Mch.feedK m x) w) := by
  have hv0 := hv
  obtain ⟨vn, vg, vc, rfl, hvn, hvg, hvc⟩ := hv
  obtain ⟨pn, cn, rfl⟩ := ri_form hvn
  obtain ⟨pg, cg, rfl⟩ := ri_form hvg
  obtain ⟨pc, cc, rfl⟩ := ri_form hvc
  have hbox0 := blk_new w #[.int .i64 m.kind, .string ⟨m.d.toArray⟩, .slice pn m.n.length cn, .slice pg m.g.length cg, .bool m.s.on, .int .i64 m.s.kind, .bool m.s.pict, .bool m.s.odd, .slice pc m.c.length cc] 41
  have hbox := blk_alloc hbox0 (.cells (bare9 0) 41)
  have hres := blk_new (w.alloc (.cells #[.int .i64 m.kind, .string ⟨m.d.toArray⟩, .slice pn m.n.length cn, .slice pg m.g.length cg, .bool m.s.on, .int .i64 m.s.kind, .bool m.s.pict, .bool m.s.odd, .slice pc m.c.length cc] 41)) (bare9 0) 41
  rw [World.size_alloc] at hres
  have hb0 := (below_new w (.cells #[.int .i64 m.kind, .string ⟨m.d.toArray⟩, .slice pn m.n.length cn, .slice pg m.g.length cg, .bool m.s.on, .int .i64 m.s.kind, .bool m.s.pict, .bool m.s.odd, .slice pc m.c.length cc] 41)).alloc (by simp) (.cells (bare9 0) 41)
  obtain ⟨W, hW⟩ : ∃ W, (w.alloc (.cells #[.int .i64 m.kind, .string ⟨m.d.toArray⟩, .slice pn m.n.length cn, .slice pg m.g.length cg, .bool m.s.on, .int .i64 m.s.kind, .bool m.s.pict, .bool m.s.odd, .slice pc m.c.length cc] 41)).alloc (.cells (bare9 0) 41) = W := ⟨_, rfl⟩
  rw [hW] at hbox hres hb0
  clear hbox0
  replace hW := Lib.hid hW
  obtain ⟨F1, F2, hF⟩ : ∃ a b, Nor.feedI m.n x = (a, b) := ⟨_, _, rfl⟩
  have hfk : Mch.feedK m x = ({ Mch.bare 1 with n := F1 }, F2) := by unfold Mch.feedK; rw [if_neg (by omega), if_pos h0, hF]
  rw [hfk]
  have hfd := fun W' (h : RI W' (.slice pn m.n.length cn) m.n) => feedC9 _ m.n x W' (by have := hsm.n; omega) h
  rw [hF] at hfd
  unfold Fed at hfd
  dsimp only at hfd
  have hvnW := ri_below hvn hb0
  unfold mchV strV
  replace hfd := Lib.hid hfd
  replace hbox := Lib.hid hbox
  replace hres := Lib.hid hres
  replace hb0 := Lib.hid hb0
  replace hv0 := Lib.hid hv0
  replace hvn := Lib.hid hvn
  replace hvg := Lib.hid hvg
  replace hvc := Lib.hid hvc
  replace h0 := Lib.hid h0
  replace hsn := Lib.hid hsn
  replace hvnW := Lib.hid hvnW
  clear hF hfk
  go_enter Tryz.func30, Tryz.ntmps30
  go_upto_region 1 with (fail)
  rw [hW.out]
  obtain ⟨k0, k1, k2, k3, k4, k5, k6, k7, k8⟩ := held9 hbox.out
  go_wp2_with (go_at_call 58; refine (hfd.out _ hvnW.out).mono ?_; rintro e w3 ⟨va, vb, rfl, ha, hb, q3⟩; have ha := ownI_mono ha hb0.out.size; have hb := ownI_mono hb hb0.out.size; obtain ⟨pa, ca, rfl⟩ := ri_form (ri_of_own ha); obtain ⟨pb, cb, rfl⟩ := ri_form (ri_of_own hb); have r3 := blk_alloc (blk_below hres.out q3) (.cells #[.slice pa F1.length ca] 36); have b3 := Lib.hid ((below_on hb0.out q3).alloc (below_on hb0.out q3).size (.cells #[.slice pa F1.length ca] 36)); have a3 := Lib.hid (ownI_alloc ha (.cells #[.slice pa F1.length ca] 36)); have o3 := Lib.hid (ownI_alloc hb (.cells #[.slice pa F1.length ca] 36)); obtain ⟨y0, y1, y2, y3, y4, y5, y6, y7, y8⟩ := held9 r3; have fy0 := blk_thaw r3 0; have fy1 := blk_thaw r3 1; have fy2 := blk_thaw r3 2; have fy3 := blk_thaw r3 3; have fy4 := blk_thaw r3 4; have fy5 := blk_thaw r3 5; have fy6 := blk_thaw r3 6; have fy7 := blk_thaw r3 7; have fy8 := blk_thaw r3 8; replace r3 := Lib.hid r3; clear q3)
  have e3 := r3.out
  have hfin := fed_gen (v := mchV m (.slice pn m.n.length cn) (.slice pg m.g.length cg) (.slice pc m.c.length cc)) (q := ({ Mch.bare 1 with n := F1 }, F2)) r3.out (Nat.le_succ w.heap.size) ⟨ri_of_own a3.out, at_own a3.out e3⟩ ⟨ri_nil15 _, at_nil _ _ _⟩ ⟨ri_nil15 _, at_nil _ _ _⟩ ⟨ri_of_own o3.out, at_own o3.out e3⟩ b3.out
  unfold set9 strV at hfin
  have r3' := r3.out
  have n9 := blk_set9 r3' (.int .i64 1) (.string ⟨#[]⟩) (.slice pa F1.length ca) nilV (.bool false) (.int .i64 0) (.bool false) (.bool false) nilV
  unfold set9 at n9
  obtain ⟨z0, z1, z2, z3, z4, z5, z6, z7, z8⟩ := held9 n9
  refine bodyPost_ret (v := .tuple #[.agg #[(.int .i64 1), (.string ⟨#[]⟩), (.slice pa F1.length ca), nilV, (.bool false), (.int .i64 0), (.bool false), (.bool false), nilV], .slice pb F2.length cb]) ?_ rfl ?_
  · simp [results, Tryz.results30, go_sem, z0, z1, z2, z3, z4, z5, z6, z7, z8]
  · exact hfin
set_option maxHeartbeats 6400000 in
set_option maxRecDepth 100000 in
theorem fold15_any (v : Value) (m : MS) (x : Int) (w : World) (h0 : m.kind = 2) (hsn : Mch.Sane m) (hsm : Mch.Small m) (hx : I64 x) (hv : RM w v m) : Calls Tryz.prog 31 #[v, .int .i64 x] w (FedM v (Mch.feedK m x) w) := by
  have hv0 := hv
  obtain ⟨vn, vg, vc, rfl, hvn, hvg, hvc⟩ := hv
  obtain ⟨pn, cn, rfl⟩ := ri_form hvn
  obtain ⟨pg, cg, rfl⟩ := ri_form hvg
  obtain ⟨pc, cc, rfl⟩ := ri_form hvc
  have hbox0 := blk_new w #[.int .i64 m.kind, .string ⟨m.d.toArray⟩, .slice pn m.n.length cn, .slice pg m.g.length cg, .bool m.s.on, .int .i64 m.s.kind, .bool m.s.pict, .bool m.s.odd, .slice pc m.c.length cc] 41
  have hbox := blk_alloc hbox0 (.cells (bare9 0) 41)
  have hres := blk_new (w.alloc (.cells #[.int .i64 m.kind, .string ⟨m.d.toArray⟩, .slice pn m.n.length cn, .slice pg m.g.length cg, .bool m.s.on, .int .i64 m.s.kind, .bool m.s.pict, .bool m.s.odd, .slice pc m.c.length cc] 41)) (bare9 0) 41
  rw [World.size_alloc] at hres
  have hb0 := (below_new w (.cells #[.int .i64 m.kind, .string ⟨m.d.toArray⟩, .slice pn m.n.length cn, .slice pg m.g.length cg, .bool m.s.on, .int .i64 m.s.kind, .bool m.s.pict, .bool m.s.odd, .slice pc m.c.length cc] 41)).alloc (by simp) (.cells (bare9 0) 41)
  obtain ⟨W, hW⟩ : ∃ W, (w.alloc (.cells #[.int .i64 m.kind, .string ⟨m.d.toArray⟩, .slice pn m.n.length cn, .slice pg m.g.length cg, .bool m.s.on, .int .i64 m.s.kind, .bool m.s.pict, .bool m.s.odd, .slice pc m.c.length cc] 41)).alloc (.cells (bare9 0) 41) = W := ⟨_, rfl⟩
  rw [hW] at hbox hres hb0
  clear hbox0
  replace hW := Lib.hid hW
  obtain ⟨F1, F2, hF⟩ : ∃ a b, Fol.feedI m.n x = (a, b) := ⟨_, _, rfl⟩
  have hfk : Mch.feedK m x = ({ Mch.bare 2 with n := F1 }, F2) := by unfold Mch.feedK; rw [if_neg (by omega), if_neg (by omega), if_pos h0, hF]
  rw [hfk]
  have hfd := fun W' (h : RI W' (.slice pn m.n.length cn) m.n) => feed10_any _ m.n x W' (by have := hsm.n; omega) h hx
  rw [hF] at hfd
  unfold Fed at hfd
  dsimp only at hfd
  have hvnW := ri_below hvn hb0
  unfold mchV strV
  replace hfd := Lib.hid hfd
  replace hbox := Lib.hid hbox
  replace hres := Lib.hid hres
  replace hb0 := Lib.hid hb0
  replace hv0 := Lib.hid hv0
  replace hvn := Lib.hid hvn
  replace hvg := Lib.hid hvg
  replace hvc := Lib.hid hvc
  replace h0 := Lib.hid h0
  replace hsn := Lib.hid hsn
  replace hvnW := Lib.hid hvnW
  clear hF hfk
  go_enter Tryz.func31, Tryz.ntmps31
  go_upto_region 1 with (fail)
  rw [hW.out]
  obtain ⟨k0, k1, k2, k3, k4, k5, k6, k7, k8⟩ := held9 hbox.out
  go_wp2_with (go_at_call 59; refine (hfd.out _ hvnW.out).mono ?_; rintro e w3 ⟨va, vb, rfl, ha, hb, q3⟩; have ha := ownI_mono ha hb0.out.size; have hb := ownI_mono hb hb0.out.size; obtain ⟨pa, ca, rfl⟩ := ri_form (ri_of_own ha); obtain ⟨pb, cb, rfl⟩ := ri_form (ri_of_own hb); have r3 := blk_alloc (blk_below hres.out q3) (.cells #[.slice pa F1.length ca] 36); have b3 := Lib.hid ((below_on hb0.out q3).alloc (below_on hb0.out q3).size (.cells #[.slice pa F1.length ca] 36)); have a3 := Lib.hid (ownI_alloc ha (.cells #[.slice pa F1.length ca] 36)); have o3 := Lib.hid (ownI_alloc hb (.cells #[.slice pa F1.length ca] 36)); obtain ⟨y0, y1, y2, y3, y4, y5, y6, y7, y8⟩ := held9 r3; have fy0 := blk_thaw r3 0; have fy1 := blk_thaw r3 1; have fy2 := blk_thaw r3 2; have fy3 := blk_thaw r3 3; have fy4 := blk_thaw r3 4; have fy5 := blk_thaw r3 5; have fy6 := blk_thaw r3 6; have fy7 := blk_thaw r3 7; have fy8 := blk_thaw r3 8; replace r3 := Lib.hid r3; clear q3)
  have e3 := r3.out
  have hfin := fed_gen (v := mchV m (.slice pn m.n.length cn) (.slice pg m.g.length cg) (.slice pc m.c.length cc)) (q := ({ Mch.bare 2 with n := F1 }, F2)) r3.out (Nat.le_succ w.heap.size) ⟨ri_of_own a3.out, at_own a3.out e3⟩ ⟨ri_nil15 _, at_nil _ _ _⟩ ⟨ri_nil15 _, at_nil _ _ _⟩ ⟨ri_of_own o3.out, at_own o3.out e3⟩ b3.out
  unfold set9 strV at hfin
  have r3' := r3.out
  have n9 := blk_set9 r3' (.int .i64 2) (.string ⟨#[]⟩) (.slice pa F1.length ca) nilV (.bool false) (.int .i64 0) (.bool false) (.bool false) nilV
  unfold set9 at n9
  obtain ⟨z0, z1, z2, z3, z4, z5, z6, z7, z8⟩ := held9 n9
  refine bodyPost_ret (v := .tuple #[.agg #[(.int .i64 2), (.string ⟨#[]⟩), (.slice pa F1.length ca), nilV, (.bool false), (.int .i64 0), (.bool false), (.bool false), nilV], .slice pb F2.length cb]) ?_ rfl ?_
  · simp [results, Tryz.results31, go_sem, z0, z1, z2, z3, z4, z5, z6, z7, z8]
  · exact hfin
set_option maxHeartbeats 6400000 in
set_option maxRecDepth 100000 in
theorem segment15_any (v : Value) (m : MS) (x : Int) (w : World) (h0 : m.kind = 3) (hsn : Mch.Sane m) (hsm : Mch.Small m) (hv : RM w v m) : Calls Tryz.prog 32 #[v, .int .i64 x] w (FedM v (Mch.feedK m x) w) := by
  have hv0 := hv
  obtain ⟨vn, vg, vc, rfl, hvn, hvg, hvc⟩ := hv
  obtain ⟨pn, cn, rfl⟩ := ri_form hvn
  obtain ⟨pg, cg, rfl⟩ := ri_form hvg
  obtain ⟨pc, cc, rfl⟩ := ri_form hvc
  have hbox0 := blk_new w #[.int .i64 m.kind, .string ⟨m.d.toArray⟩, .slice pn m.n.length cn, .slice pg m.g.length cg, .bool m.s.on, .int .i64 m.s.kind, .bool m.s.pict, .bool m.s.odd, .slice pc m.c.length cc] 41
  have hbox := blk_alloc hbox0 (.cells (bare9 0) 41)
  have hres := blk_new (w.alloc (.cells #[.int .i64 m.kind, .string ⟨m.d.toArray⟩, .slice pn m.n.length cn, .slice pg m.g.length cg, .bool m.s.on, .int .i64 m.s.kind, .bool m.s.pict, .bool m.s.odd, .slice pc m.c.length cc] 41)) (bare9 0) 41
  rw [World.size_alloc] at hres
  have hb0 := (below_new w (.cells #[.int .i64 m.kind, .string ⟨m.d.toArray⟩, .slice pn m.n.length cn, .slice pg m.g.length cg, .bool m.s.on, .int .i64 m.s.kind, .bool m.s.pict, .bool m.s.odd, .slice pc m.c.length cc] 41)).alloc (by simp) (.cells (bare9 0) 41)
  obtain ⟨W, hW⟩ : ∃ W, (w.alloc (.cells #[.int .i64 m.kind, .string ⟨m.d.toArray⟩, .slice pn m.n.length cn, .slice pg m.g.length cg, .bool m.s.on, .int .i64 m.s.kind, .bool m.s.pict, .bool m.s.odd, .slice pc m.c.length cc] 41)).alloc (.cells (bare9 0) 41) = W := ⟨_, rfl⟩
  rw [hW] at hbox hres hb0
  clear hbox0
  replace hW := Lib.hid hW
  obtain ⟨G1, S1, T1, hF⟩ : ∃ a b c, Sgm.feedI m.g m.s x = ((a, b), c) := ⟨_, _, _, rfl⟩
  have hfk : Mch.feedK m x = ({ Mch.bare 3 with g := G1, s := S1 }, Mch.cutOf T1) := by unfold Mch.feedK; rw [if_neg (by omega), if_neg (by omega), if_neg (by omega), if_pos h0, hF]
  rw [hfk]
  have hTl : T1.length ≤ 1000 := by
    have h := seg_told15 m.g m.s x
    rw [hF] at h
    dsimp only at h
    omega
  have hfd := fun W' (h : RI W' (.slice pg m.g.length cg) m.g) => feed12_own _ m.g m.s x W' (by have := hsm.g; omega) h
  rw [hF] at hfd
  obtain ⟨s1, s2, s3, s4⟩ := S1
  unfold FedO12 sgV at hfd
  dsimp only at hfd
  have hcu := fun W' u (h : RI W' u T1) => withCut15_any u T1 W' hTl h
  have hvgW := ri_below hvg hb0
  have hlt := blk_lt hres
  unfold mchV strV
  replace hfd := Lib.hid hfd
  replace hcu := Lib.hid hcu
  replace hbox := Lib.hid hbox
  replace hres := Lib.hid hres
  replace hb0 := Lib.hid hb0
  replace hv0 := Lib.hid hv0
  replace hvn := Lib.hid hvn
  replace hvg := Lib.hid hvg
  replace hvc := Lib.hid hvc
  replace h0 := Lib.hid h0
  replace hsn := Lib.hid hsn
  replace hvgW := Lib.hid hvgW
  replace hTl := Lib.hid hTl
  replace hlt := Lib.hid hlt
  clear hF hfk
  go_enter Tryz.func32, Tryz.ntmps32
  go_upto_region 1 with (fail)
  rw [hW.out]
  obtain ⟨k0, k1, k2, k3, k4, k5, k6, k7, k8⟩ := held9 hbox.out
  go_wp2_with fail
  refine (hfd.out _ hvgW.out).mono ?_
  rintro e w3 ⟨va, vb, rfl, ha, hb, q3⟩
  have ha := ownI_mono ha hb0.out.size
  have hb := ownI_mono hb hb0.out.size
  obtain ⟨pa, ca, rfl⟩ := ri_form (ri_of_own ha)
  obtain ⟨pb, cb, rfl⟩ := ri_form (ri_of_own hb)
  have hl3 := Lib.hid (Nat.lt_of_lt_of_le hlt.out q3.size)
  have r3 := blk_alloc (blk_below hres.out q3) (.cells #[.slice pa G1.length ca, .bool s1, .int .i64 s2, .bool s3, .bool s4] 39)
  have b3 := Lib.hid ((below_on hb0.out q3).alloc (below_on hb0.out q3).size (.cells #[.slice pa G1.length ca, .bool s1, .int .i64 s2, .bool s3, .bool s4] 39))
  have a3 := Lib.hid (ownI_alloc ha (.cells #[.slice pa G1.length ca, .bool s1, .int .i64 s2, .bool s3, .bool s4] 39))
  have t3 := Lib.hid (ownI_alloc hb (.cells #[.slice pa G1.length ca, .bool s1, .int .i64 s2, .bool s3, .bool s4] 39))
  have x3 := Lib.hid (blk_new w3 #[.slice pa G1.length ca, .bool s1, .int .i64 s2, .bool s3, .bool s4] 39)
  obtain ⟨y0, y1, y2, y3, y4, y5, y6, y7, y8⟩ := held9 r3
  have fy0 := blk_thaw r3 0
  have fy1 := blk_thaw r3 1
  have fy2 := blk_thaw r3 2
  have fy3 := blk_thaw r3 3
  have fy4 := blk_thaw r3 4
  have fy5 := blk_thaw r3 5
  have fy6 := blk_thaw r3 6
  have fy7 := blk_thaw r3 7
  have fy8 := blk_thaw r3 8
  replace r3 := Lib.hid r3
  clear q3
  clear ha hb
  go_upto_region 2 with (fail)
  clear y0 y1 y2 y3 y4 y5 y6 y7 y8 fy0 fy1 fy2 fy3 fy4 fy5 fy6 fy7 fy8 k0 k1 k2 k3 k4 k5 k6 k7 k8
  obtain ⟨w4, hw4⟩ : ∃ w4, w3.alloc (.cells #[.slice pa G1.length ca, .bool s1, .int .i64 s2, .bool s3, .bool s4] 39) = w4 := ⟨_, rfl⟩
  rw [hw4] at r3 b3 a3 t3 x3 ⊢
  replace hw4 := Lib.hid hw4
  have t4 := Lib.hid (ri_drew (ri_of_own t3.out))
  refine wp_region_held_drew (S := fun w' => w'.cell? ⟨w3.heap.size, 0, none⟩ = some (.slice pa G1.length ca) ∧ w'.cell? ⟨w3.heap.size, 1, none⟩ = some (.bool s1) ∧ w'.cell? ⟨w3.heap.size, 2, none⟩ = some (.int .i64 s2) ∧ w'.cell? ⟨w3.heap.size, 3, none⟩ = some (.bool s3) ∧ w'.cell? ⟨w3.heap.size, 4, none⟩ = some (.bool s4)) (by kernel_rfl) (held5_15 x3.out) (fun hS => ?_)
  refine' wpAnyH_take (i := 0) (oi := ⟨_, _, _, _, _, _⟩) (v := _) rfl (by kernel_rfl) (by kernel_rfl) (by kernel_rfl) (fun _ _ _ h => h) (Or.inl ⟨by rfl, ?hy0⟩) hS ?rest0
  case hy0 => (intro wz hSw; (try dsimp only at hSw); go_simp; try with_reducible rfl)
  try simp only [Act.put, List.setIfInBounds_toArray, List.set_cons_zero, List.set_cons_succ]
  refine' wpAnyH_take (i := 1) (oi := ⟨_, _, _, _, _, _⟩) (v := _) rfl (by kernel_rfl) (by kernel_rfl) (by kernel_rfl) (fun _ _ _ h => h) (Or.inl ⟨by rfl, ?hy1⟩) hS ?rest1
  case hy1 => (intro wz hSw; (try dsimp only at hSw); go_simp; try with_reducible rfl)
  try simp only [Act.put, List.setIfInBounds_toArray, List.set_cons_zero, List.set_cons_succ]
  refine' wpAnyH_take (i := 2) (oi := ⟨_, _, _, _, _, _⟩) (v := _) rfl (by kernel_rfl) (by kernel_rfl) (by kernel_rfl) (fun _ _ _ h => h) (Or.inl ⟨by rfl, ?hy2⟩) hS ?rest2
  case hy2 => (intro wz hSw; (try dsimp only at hSw); go_simp; try with_reducible rfl)
  try simp only [Act.put, List.setIfInBounds_toArray, List.set_cons_zero, List.set_cons_succ]
  refine wpAnyH_ready (rs := [3]) (by kernel_rfl) (by simp) (AllReadyH.cons rfl (fun K hK => ?_) AllReadyH.nil)
  go_simp
  go_at_call 61
  refine (hcu.out _ _ t4.out).mono ?_
  rintro e w5 ⟨vt, rfl, ht, q5⟩
  obtain ⟨pt, ct, rfl⟩ := ri_form (ri_of_own ht)
  have r5 := blk_below (w := w4.drew) r3.out q5
  have b5 := Lib.hid (below_on (show Below w.heap.size w w4.drew from b3.out.drew) q5)
  have a5 := Lib.hid (ownI_below (w := w4.drew) a3.out q5)
  have t5 := Lib.hid (ownI_mono ht (show w.heap.size ≤ w4.drew.heap.size from b3.out.size))
  have x5 := Lib.hid (blk_below (w := w4.drew) x3.out q5)
  clear q5 ht
  go_wp2_with fail
  refine hK.out _ _ (held5_15 x5.out) (fun hSn => ?_)
  clear hS
  have hS := hSn
  clear hSn
  clear hK K
  try simp only [Act.put, List.setIfInBounds_toArray, List.set_cons_zero, List.set_cons_succ]
  obtain ⟨y0, y1, y2, y3, y4, y5, y6, y7, y8⟩ := held9 r5
  have fy0 := blk_thaw r5 0
  have fy1 := blk_thaw r5 1
  have fy2 := blk_thaw r5 2
  have fy3 := blk_thaw r5 3
  have fy4 := blk_thaw r5 4
  have fy5 := blk_thaw r5 5
  have fy6 := blk_thaw r5 6
  have fy7 := blk_thaw r5 7
  have fy8 := blk_thaw r5 8
  replace r5 := Lib.hid r5
  refine wpAnyH_ready (rs := [4]) (by kernel_rfl) (by simp) (AllReadyH.cons rfl (fun K hK => ?_) AllReadyH.nil)
  go_simp
  go_wp2_with fail
  refine hK.out _ _ (by have h := blk_but9 x5.out (show w3.heap.size ≠ w.heap.size + 1 by have := hl3.out; omega) (.int .i64 3) (.string ⟨#[]⟩) nilV (.slice pa G1.length ca) (.bool s1) (.int .i64 s2) (.bool s3) (.bool s4) nilV; unfold set9 at h; exact held5_15 h) (fun hSn => ?_)
  clear hS
  have hS := hSn
  clear hSn
  clear hK K
  try simp only [Act.put, List.setIfInBounds_toArray, List.set_cons_zero, List.set_cons_succ]
  refine' wpAnyH_take (i := 5) (oi := ⟨_, _, _, _, _, _⟩) (v := _) rfl (by kernel_rfl) (by kernel_rfl) (by kernel_rfl) (fun _ _ _ h => h) (Or.inl ⟨by rfl, ?hy5⟩) hS ?rest5
  case hy5 => (intro wz hSw; (try dsimp only at hSw); go_simp; try with_reducible rfl)
  try simp only [Act.put, List.setIfInBounds_toArray, List.set_cons_zero, List.set_cons_succ]
  refine wpAnyH_done (by kernel_rfl) ?_ _
  go_wp2_with fail
  have e5 := r5.out
  have hfin := fed_gen (v := mchV m (.slice pn m.n.length cn) (.slice pg m.g.length cg) (.slice pc m.c.length cc)) (q := ({ Mch.bare 3 with g := G1, s := ⟨s1, s2, s3, s4⟩ }, Mch.cutOf T1)) r5.out (Nat.le_succ w.heap.size) ⟨ri_nil15 _, at_nil _ _ _⟩ ⟨ri_of_own a5.out, at_own a5.out e5⟩ ⟨ri_nil15 _, at_nil _ _ _⟩ ⟨ri_of_own t5.out, at_own t5.out e5⟩ b5.out
  unfold set9 strV at hfin
  have r3' := r5.out
  have n9 := blk_set9 r3' (.int .i64 3) (.string ⟨#[]⟩) nilV (.slice pa G1.length ca) (.bool s1) (.int .i64 s2) (.bool s3) (.bool s4) nilV
  unfold set9 at n9
  obtain ⟨z0, z1, z2, z3, z4, z5, z6, z7, z8⟩ := held9 n9
  refine bodyPost_ret (v := .tuple #[.agg #[(.int .i64 3), (.string ⟨#[]⟩), nilV, (.slice pa G1.length ca), (.bool s1), (.int .i64 s2), (.bool s3), (.bool s4), nilV], .slice pt (Mch.cutOf T1).length ct]) ?_ rfl ?_
  · simp [results, Tryz.results32, go_sem, z0, z1, z2, z3, z4, z5, z6, z7, z8]
  · exact hfin
set_option maxHeartbeats 6400000 in
set_option maxRecDepth 100000 in
theorem cut15_any (v : Value) (m : MS) (w : World) (h4 : m.kind = 4) (hsn : Mch.Sane m) (hsm : Mch.Small m) (hv : RM w v m) : Calls Tryz.prog 33 #[v, .int .i64 (-1)] w (FedM v (Mch.feedK m (-1)) w) := by
  have hv0 := hv
  obtain ⟨vn, vg, vc, rfl, hvn, hvg, hvc⟩ := hv
  obtain ⟨pn, cn, rfl⟩ := ri_form hvn
  obtain ⟨pg, cg, rfl⟩ := ri_form hvg
  obtain ⟨pc, cc, rfl⟩ := ri_form hvc
  have hbox0 := blk_new w #[.int .i64 m.kind, .string ⟨m.d.toArray⟩, .slice pn m.n.length cn, .slice pg m.g.length cg, .bool m.s.on, .int .i64 m.s.kind, .bool m.s.pict, .bool m.s.odd, .slice pc m.c.length cc] 41
  have hbox := blk_alloc hbox0 (.cells (bare9 0) 41)
  have hres := blk_new (w.alloc (.cells #[.int .i64 m.kind, .string ⟨m.d.toArray⟩, .slice pn m.n.length cn, .slice pg m.g.length cg, .bool m.s.on, .int .i64 m.s.kind, .bool m.s.pict, .bool m.s.odd, .slice pc m.c.length cc] 41)) (bare9 0) 41
  rw [World.size_alloc] at hres
  have hb0 := (below_new w (.cells #[.int .i64 m.kind, .string ⟨m.d.toArray⟩, .slice pn m.n.length cn, .slice pg m.g.length cg, .bool m.s.on, .int .i64 m.s.kind, .bool m.s.pict, .bool m.s.odd, .slice pc m.c.length cc] 41)).alloc (by simp) (.cells (bare9 0) 41)
  obtain ⟨W, hW⟩ : ∃ W, (w.alloc (.cells #[.int .i64 m.kind, .string ⟨m.d.toArray⟩, .slice pn m.n.length cn, .slice pg m.g.length cg, .bool m.s.on, .int .i64 m.s.kind, .bool m.s.pict, .bool m.s.odd, .slice pc m.c.length cc] 41)).alloc (.cells (bare9 0) 41) = W := ⟨_, rfl⟩
  rw [hW] at hbox hres hb0
  clear hbox0
  replace hW := Lib.hid hW
  have hfk : Mch.feedK m (-1) = (Mch.bare 4, Mch.itemsOf (Frm.putF m.c)) := by
    unfold Mch.feedK
    rw [if_neg (by omega), if_neg (by omega), if_neg (by omega), if_neg (by omega), if_pos rfl]
  rw [hfk]
  clear hfk
  have hvcW := ri_below hvc hb0
  have hc32 := hsn.c
  have hput := fun W' (h : RI W' (.slice pc m.c.length cc) m.c) => put13_any _ m.c W' (by omega) h
  have hnew := fun W' => new15_any 4 W'
  rw [if_pos (by omega)] at hnew
  have hpl : (Frm.putF m.c).length ≤ 100000 := by have := Mch.putF_len m.c; omega
  have hit := fun W' u (h : RBytes W' u (Frm.putF m.c)) => items15_any u (Frm.putF m.c) W' hpl h
  unfold ToldB at hput
  unfold Makes at hit
  unfold mchV strV
  replace hput := Lib.hid hput
  replace hnew := Lib.hid hnew
  replace hit := Lib.hid hit
  replace hbox := Lib.hid hbox
  replace hres := Lib.hid hres
  replace hb0 := Lib.hid hb0
  replace hv0 := Lib.hid hv0
  replace hvn := Lib.hid hvn
  replace hvg := Lib.hid hvg
  replace hvc := Lib.hid hvc
  replace h4 := Lib.hid h4
  replace hsn := Lib.hid hsn
  replace hvcW := Lib.hid hvcW
  replace hpl := Lib.hid hpl
  replace hc32 := Lib.hid hc32
  go_enter Tryz.func33, Tryz.ntmps33
  go_upto_region 2 with (fail)
  rw [hW.out]
  have hc8 := Lib.hid (blk_cell hbox.out 8 _ rfl)
  refine wp_region_held_drew (S := fun w' => w'.cell? ⟨w.heap.size, 8, none⟩ = some (.slice pc m.c.length cc)) (by kernel_rfl) (hc8.out) (fun hS => ?_)
  refine' wpAnyH_take (i := 1) (oi := ⟨_, _, _, _, _, _⟩) (v := _) rfl (by kernel_rfl) (by kernel_rfl) (by kernel_rfl) (fun _ _ _ h => h) (Or.inl ⟨by rfl, ?hy1⟩) hS ?rest1
  case hy1 => (intro wz hSw; (try dsimp only at hSw); go_simp; try with_reducible rfl)
  try simp only [Act.put, List.setIfInBounds_toArray, List.set_cons_zero, List.set_cons_succ]
  refine' wpAnyH_take (i := 2) (oi := ⟨_, _, _, _, _, _⟩) (v := _) rfl (by kernel_rfl) (by kernel_rfl) (by kernel_rfl) (fun _ _ _ h => h) (Or.inl ⟨by rfl, ?hy2⟩) hS ?rest2
  case hy2 => (intro wz hSw; (try dsimp only at hSw); go_simp; try with_reducible rfl)
  try simp only [Act.put, List.setIfInBounds_toArray, List.set_cons_zero, List.set_cons_succ]
  refine wpAnyH_ready (rs := [0]) (by kernel_rfl) (by simp) (AllReadyH.cons rfl (fun K hK => ?_) AllReadyH.nil)
  go_simp
  go_at_call 18
  refine (hnew.out _).mono ?_
  rintro e w2 ⟨rfl, q2⟩
  have r2 := Lib.hid (blk_below (w := W.drew) hres.out q2)
  have v2 := Lib.hid (ri_below (ri_drew hvcW.out) q2)
  have b2 := Lib.hid (below_on (show Below w.heap.size w W.drew from hb0.out.drew) q2)
  have x2 := Lib.hid (blk_below (w := W.drew) hbox.out q2)
  clear q2
  go_wp2_with fail
  refine hK.out _ _ (blk_cell x2.out 8 _ rfl) (fun hSn => ?_)
  clear hS
  have hS := hSn
  clear hSn
  clear hK K
  try simp only [Act.put, List.setIfInBounds_toArray, List.set_cons_zero, List.set_cons_succ]
  refine wpAnyH_ready (rs := [3]) (by kernel_rfl) (by simp) (AllReadyH.cons rfl (fun K hK => ?_) AllReadyH.nil)
  go_simp
  go_at_call 54
  refine (hput.out _ v2.out).mono ?_
  rintro e w3 ⟨vp, rfl, rp, q3⟩
  obtain ⟨pp, cp, rfl⟩ := bytes_form rp
  replace rp := Lib.hid rp
  have r3 := Lib.hid (blk_below r2.out q3)
  have b3 := Lib.hid (below_on b2.out q3)
  have x3 := Lib.hid (blk_below x2.out q3)
  clear q3
  go_wp2_with fail
  refine hK.out _ _ (blk_cell x3.out 8 _ rfl) (fun hSn => ?_)
  clear hS
  have hS := hSn
  clear hSn
  clear hK K
  try simp only [Act.put, List.setIfInBounds_toArray, List.set_cons_zero, List.set_cons_succ]
  refine wpAnyH_ready (rs := [4]) (by kernel_rfl) (by simp) (AllReadyH.cons rfl (fun K hK => ?_) AllReadyH.nil)
  go_simp
  go_at_call 62
  refine (hit.out _ _ rp.out).mono ?_
  rintro e w4 ⟨vt, rfl, rt, q4⟩
  obtain ⟨pt, ct, rfl⟩ := ri_form (ri_of_own rt)
  have rt4 := Lib.hid (ownI_mono rt b3.out.size)
  have r4 := blk_below r3.out q4
  have b4 := Lib.hid (below_on b3.out q4)
  have x4 := Lib.hid (blk_below x3.out q4)
  clear q4 rt
  go_wp2_with fail
  refine hK.out _ _ (blk_cell x4.out 8 _ rfl) (fun hSn => ?_)
  clear hS
  have hS := hSn
  clear hSn
  clear hK K
  try simp only [Act.put, List.setIfInBounds_toArray, List.set_cons_zero, List.set_cons_succ]
  obtain ⟨y0, y1, y2, y3, y4, y5, y6, y7, y8⟩ := held9 r4
  have fy0 := blk_thaw r4 0
  have fy1 := blk_thaw r4 1
  have fy2 := blk_thaw r4 2
  have fy3 := blk_thaw r4 3
  have fy4 := blk_thaw r4 4
  have fy5 := blk_thaw r4 5
  have fy6 := blk_thaw r4 6
  have fy7 := blk_thaw r4 7
  have fy8 := blk_thaw r4 8
  replace r4 := Lib.hid r4
  refine wpAnyH_ready (rs := [5]) (by kernel_rfl) (by simp) (AllReadyH.cons rfl (fun K hK => ?_) AllReadyH.nil)
  go_simp
  go_wp2_with fail
  refine hK.out _ _ (by show (set9 w4 (w.heap.size + 1) (.int .i64 4) (.string ⟨#[]⟩) nilV nilV (.bool false) (.int .i64 0) (.bool false) (.bool false) nilV).cell? _ = _; exact (World.cell?_of_block (w := w4) (a := ⟨w.heap.size, 8, none⟩) (set9_block w4 (w.heap.size + 1) _ _ _ _ _ _ _ _ _ _ (by simp))).trans (blk_cell x4.out 8 _ rfl)) (fun hSn => ?_)
  clear hS
  have hS := hSn
  clear hSn
  clear hK K
  try simp only [Act.put, List.setIfInBounds_toArray, List.set_cons_zero, List.set_cons_succ]
  refine' wpAnyH_take (i := 6) (oi := ⟨_, _, _, _, _, _⟩) (v := _) rfl (by kernel_rfl) (by kernel_rfl) (by kernel_rfl) (fun _ _ _ h => h) (Or.inl ⟨by rfl, ?hy6⟩) hS ?rest6
  case hy6 => (intro wz hSw; (try dsimp only at hSw); go_simp; try with_reducible rfl)
  try simp only [Act.put, List.setIfInBounds_toArray, List.set_cons_zero, List.set_cons_succ]
  refine wpAnyH_done (by kernel_rfl) ?_ _
  go_wp2_with fail
  have e4 := r4.out
  have hfin := fed_gen (v := mchV m (.slice pn m.n.length cn) (.slice pg m.g.length cg) (.slice pc m.c.length cc)) (q := (Mch.bare 4, Mch.itemsOf (Frm.putF m.c))) r4.out (Nat.le_succ w.heap.size) ⟨ri_nil15 _, at_nil _ _ _⟩ ⟨ri_nil15 _, at_nil _ _ _⟩ ⟨ri_nil15 _, at_nil _ _ _⟩ ⟨ri_of_own rt4.out, at_own rt4.out e4⟩ b4.out
  unfold set9 strV at hfin
  have r3' := r4.out
  have n9 := blk_set9 r3' (.int .i64 4) (.string ⟨#[]⟩) nilV nilV (.bool false) (.int .i64 0) (.bool false) (.bool false) nilV
  unfold set9 at n9
  obtain ⟨z0, z1, z2, z3, z4, z5, z6, z7, z8⟩ := held9 n9
  refine bodyPost_ret (v := .tuple #[.agg #[(.int .i64 4), (.string ⟨#[]⟩), nilV, nilV, (.bool false), (.int .i64 0), (.bool false), (.bool false), nilV], .slice pt (Mch.itemsOf (Frm.putF m.c)).length ct]) ?_ rfl ?_
  · simp [results, Tryz.results33, go_sem, z0, z1, z2, z3, z4, z5, z6, z7, z8]
  · exact hfin
set_option maxHeartbeats 6400000 in
set_option maxRecDepth 100000 in
theorem frame15_any (v : Value) (m : MS) (x : Int) (w : World) (h4 : m.kind = 4) (hx : x ≠ -1) (hsn : Mch.Sane m) (hsm : Mch.Small m) (hv : RM w v m) : Calls Tryz.prog 33 #[v, .int .i64 x] w (FedM v (Mch.feedK m x) w) := by
  obtain ⟨i0, hi, hz0, hz1, hz2⟩ := info_parts info_i
  have hv0 := hv
  obtain ⟨vn, vg, vc, rfl, hvn, hvg, hvc⟩ := hv
  obtain ⟨pn, cn, rfl⟩ := ri_form hvn
  obtain ⟨pg, cg, rfl⟩ := ri_form hvg
  obtain ⟨pc, cc, rfl⟩ := ri_form hvc
  have hbox0 := blk_new w #[.int .i64 m.kind, .string ⟨m.d.toArray⟩, .slice pn m.n.length cn, .slice pg m.g.length cg, .bool m.s.on, .int .i64 m.s.kind, .bool m.s.pict, .bool m.s.odd, .slice pc m.c.length cc] 41
  have hbox := blk_alloc hbox0 (.cells (bare9 0) 41)
  have hres := blk_new (w.alloc (.cells #[.int .i64 m.kind, .string ⟨m.d.toArray⟩, .slice pn m.n.length cn, .slice pg m.g.length cg, .bool m.s.on, .int .i64 m.s.kind, .bool m.s.pict, .bool m.s.odd, .slice pc m.c.length cc] 41)) (bare9 0) 41
  rw [World.size_alloc] at hres
  have hb0 := (below_new w (.cells #[.int .i64 m.kind, .string ⟨m.d.toArray⟩, .slice pn m.n.length cn, .slice pg m.g.length cg, .bool m.s.on, .int .i64 m.s.kind, .bool m.s.pict, .bool m.s.odd, .slice pc m.c.length cc] 41)).alloc (by simp) (.cells (bare9 0) 41)
  obtain ⟨W, hW⟩ : ∃ W, (w.alloc (.cells #[.int .i64 m.kind, .string ⟨m.d.toArray⟩, .slice pn m.n.length cn, .slice pg m.g.length cg, .bool m.s.on, .int .i64 m.s.kind, .bool m.s.pict, .bool m.s.odd, .slice pc m.c.length cc] 41)).alloc (.cells (bare9 0) 41) = W := ⟨_, rfl⟩
  rw [hW] at hbox hres hb0
  clear hbox0
  replace hW := Lib.hid hW
  have hfk : Mch.feedK m x = ({ Mch.bare 4 with c := if m.c.length = 32 then m.c else m.c ++ [x] }, []) := by
    unfold Mch.feedK
    rw [if_neg (by omega), if_neg (by omega), if_neg (by omega), if_neg (by omega), if_neg hx]
    by_cases h : m.c.length = 32
    · rw [if_pos h, if_pos h, ← only_c15 hsn h4]
    · rw [if_neg h, if_neg h]
  obtain ⟨C, hC⟩ : ∃ C, (if m.c.length = 32 then m.c else m.c ++ [x]) = C := ⟨_, rfl⟩
  rw [hfk, hC]
  clear hfk
  have hvcW := ri_below hvc hb0
  have hc32 := hsn.c
  have hcl := fun W' (h : RI W' (.slice pc m.c.length cc) m.c) => sclone_any _ m.c W' (by omega) h
  have tx : (x == -1) = false := beq_eq_false_iff_ne.2 hx
  unfold Makes at hcl
  unfold mchV strV
  replace hcl := Lib.hid hcl
  replace hbox := Lib.hid hbox
  replace hres := Lib.hid hres
  replace hb0 := Lib.hid hb0
  replace hv0 := Lib.hid hv0
  replace hvn := Lib.hid hvn
  replace hvg := Lib.hid hvg
  replace hvc := Lib.hid hvc
  replace h4 := Lib.hid h4
  replace hsn := Lib.hid hsn
  replace hvcW := Lib.hid hvcW
  replace hx := Lib.hid hx
  replace hC := Lib.hid hC
  go_enter Tryz.func33, Tryz.ntmps33
  go_upto_region 3 with (fail)
  rw [hW.out]
  have hc8 := blk_cell hbox.out 8 _ rfl
  go_wp2_with fail
  refine (hcl.out _ hvcW.out).mono ?_
  rintro e w2 ⟨va, rfl, ha, q2⟩
  have a2 := Lib.hid (ownI_mono ha hb0.out.size)
  have b2 := Lib.hid (below_on hb0.out q2)
  have r2 := Lib.hid (blk_below hres.out q2)
  obtain ⟨pa, ca, rfl⟩ := ri_form (ri_of_own ha)
  clear ha q2 hc8
  by_cases h32 : m.c.length = 32
  · have hC2 := hC.out
    rw [if_pos h32] at hC2
    subst hC2
    clear hC
    have t32 : ¬ ((m.c.length : Int) < 32) := by omega
    have t33 : ¬ (m.c.length < 32) := by omega
    replace h32 := Lib.hid h32
    have r2' := r2.out
    obtain ⟨y0, y1, y2, y3, y4, y5, y6, y7, y8⟩ := held9 r2'
    have fy0 := blk_thaw r2' 0
    have fy1 := blk_thaw r2' 1
    have fy2 := blk_thaw r2' 2
    have fy3 := blk_thaw r2' 3
    have fy4 := blk_thaw r2' 4
    have fy5 := blk_thaw r2' 5
    have fy6 := blk_thaw r2' 6
    have fy7 := blk_thaw r2' 7
    have fy8 := blk_thaw r2' 8
    clear r2'
    go_wp2_with fail
    have e2 := r2.out
    have hfin := fed_gen (v := mchV m (.slice pn m.n.length cn) (.slice pg m.g.length cg) (.slice pc m.c.length cc)) (q := ({ Mch.bare 4 with c := m.c }, [])) r2.out (Nat.le_succ w.heap.size) ⟨ri_nil15 _, at_nil _ _ _⟩ ⟨ri_nil15 _, at_nil _ _ _⟩ ⟨ri_of_own a2.out, at_own a2.out e2⟩ ⟨ri_nil15 _, at_nil _ _ _⟩ b2.out
    unfold set9 strV at hfin
    have r3' := r2.out
    have n9 := blk_set9 r3' (.int .i64 4) (.string ⟨#[]⟩) nilV nilV (.bool false) (.int .i64 0) (.bool false) (.bool false) (.slice pa m.c.length ca)
    unfold set9 at n9
    obtain ⟨z0, z1, z2, z3, z4, z5, z6, z7, z8⟩ := held9 n9
    refine bodyPost_ret (v := .tuple #[.agg #[(.int .i64 4), (.string ⟨#[]⟩), nilV, nilV, (.bool false), (.int .i64 0), (.bool false), (.bool false), (.slice pa m.c.length ca)], .slice none 0 0]) ?_ rfl ?_
    · simp [results, Tryz.results33, go_sem, z0, z1, z2, z3, z4, z5, z6, z7, z8]
    · exact hfin
  · have hC2 := hC.out
    rw [if_neg h32] at hC2
    subst hC2
    clear hC
    have t32 : ((m.c.length : Int) < 32) := by omega
    have t33 : (m.c.length < 32) := by omega
    replace h32 := Lib.hid h32
    obtain ⟨l4, hl4⟩ : ∃ l4, (m.c ++ [x]).length = l4 := ⟨_, rfl⟩
    replace hl4 := Lib.hid hl4
    have a3 := Lib.hid (ownI_alloc a2.out (.cells #[.int .i64 x] 3))
    have s3 := Lib.hid (ri_src (ri_of_own (ownI_lit w2.heap.size w2 [x] #[.int .i64 x] w2.heap.size 1 rfl (Nat.le_refl _) rfl rfl (by unfold maxLen; omega))))
    have b3 := Lib.hid (b2.out.alloc b2.out.size (.cells #[.int .i64 x] 3))
    have r3 := Lib.hid (blk_alloc r2.out (.cells #[.int .i64 x] 3))
    go_wp2_with (at_builtin; refine wpList_append_src rfl _ _ 24 rfl w.heap.size 3 i0 (.int .i64 0) 8 Tryz.underlying24 hi hz0 hz1 hz2 rfl _ _ _ rfl a3.out _ _ rfl s3.out (oneCellI _) (by simp only [List.length_map, List.length_append, List.length_take, List.length_drop, List.length_cons, List.length_nil, List.length_singleton]; unfold maxLen; omega) (by simp only [List.length_map, List.length_append, List.length_take, List.length_drop, List.length_cons, List.length_nil, List.length_singleton]; omega) b3.out.size ?_; intro v4 w4 ho4 hg4; have o4 := Lib.hid (ownI_of_row (l := m.c ++ [x]) ho4 (by (try simp); try omega) (by (try simp); try omega)); have b4 := Lib.hid (below_row b3.out hg4 b3.out.size a3.out (Nat.le_refl _)); have r4 := blk_grown r3.out hg4 (fun e => (own_box9 a3.out r3.out) e.symm); obtain ⟨p4, c4, ee4⟩ := ri_form (ri_of_own o4.out); rw [hl4.out] at ee4; subst ee4; obtain ⟨y0, y1, y2, y3, y4, y5, y6, y7, y8⟩ := held9 r4; have fy0 := blk_thaw r4 0; have fy1 := blk_thaw r4 1; have fy2 := blk_thaw r4 2; have fy3 := blk_thaw r4 3; have fy4 := blk_thaw r4 4; have fy5 := blk_thaw r4 5; have fy6 := blk_thaw r4 6; have fy7 := blk_thaw r4 7; have fy8 := blk_thaw r4 8; replace r4 := Lib.hid r4; clear ho4 hg4)
    have e4 := r4.out
    have hfin := fed_gen (v := mchV m (.slice pn m.n.length cn) (.slice pg m.g.length cg) (.slice pc m.c.length cc)) (q := ({ Mch.bare 4 with c := m.c ++ [x] }, [])) r4.out (Nat.le_succ w.heap.size) ⟨ri_nil15 _, at_nil _ _ _⟩ ⟨ri_nil15 _, at_nil _ _ _⟩ ⟨ri_of_own o4.out, at_own o4.out e4⟩ ⟨ri_nil15 _, at_nil _ _ _⟩ b4.out
    unfold set9 strV at hfin
    have r3' := r4.out
    have n9 := blk_set9 r3' (.int .i64 4) (.string ⟨#[]⟩) nilV nilV (.bool false) (.int .i64 0) (.bool false) (.bool false) (.slice p4 l4 c4)
    unfold set9 at n9
    obtain ⟨z0, z1, z2, z3, z4, z5, z6, z7, z8⟩ := held9 n9
    refine bodyPost_ret (v := .tuple #[.agg #[(.int .i64 4), (.string ⟨#[]⟩), nilV, nilV, (.bool false), (.int .i64 0), (.bool false), (.bool false), (.slice p4 l4 c4)], .slice none 0 0]) ?_ rfl ?_
    · simp [results, Tryz.results33, go_sem, z0, z1, z2, z3, z4, z5, z6, z7, z8]
    · exact hfin
end Go.Proofs.YtiidjkhkcckmkaaGreatDoor
