/- Texts that stand together. -/
import Derived.Test.YtiidjkhkcckmkaaGreatDoorMaAP
import Derived.Test.YtiidjkhkcckmkaaGreatDoorFoP
import Derived.Test.YtiidjkhkcckmkaaGreatDoorNoQ
import Derived.Test.YtiidjkhkcckmkaaGreatDoorSgP
import Derived.Test.YtiidjkhkcckmkaaGreatDoorFrP
import Derived.Test.YtiidjkhkcckmkaaGreatDoorMaW0
import Derived.Test.YtiidjkhkcckmkaaGreatDoorBasP
import Derived.Test.YtiidjkhkcckmkaaGreatDoorMaBP
import Derived.Deep.RegionHeld3
import Derived.WalkKit
import Derived.Deep.RegionHeld
import Derived.Deep.LoopGhost
import Derived.Deep.DeepCutAuto
import Derived.OrdersHeld
/- Layer 15: the code's decode, norm, fold, segment, frame. -/
namespace Go.Proofs.YtiidjkhkcckmkaaGreatDoor
set_option linter.unusedSimpArgs false
set_option linter.unusedVariables false
open Go.RowKit Go.Lib
open Mch (MS)
theorem seg_zero15 {s : Clu.CS} (h : Sgm.saneB [] s = true) : s = Clu.zero := by
  have h1 := seg_off15 h
  unfold Sgm.saneB Clu.saneB at h
  simp [h1] at h
  exact h
theorem seg_told15 (l : List Int) (s : Clu.CS) (r : Int) : (Sgm.feedI l s r).2.length ≤ 32 := by
  rw [well_feed]
  have h := well_len l s
  unfold Sgm.stepI
  split
  · exact h
  · simp
theorem only_c15 {m : MS} (h : Mch.Sane m) (h4 : m.kind = 4) : m = { Mch.bare 4 with c := m.c } := by
  have hd := h.d0.resolve_left (by omega)
  have hn := (h.n0.resolve_left (by omega)).resolve_left (by omega)
  have hg := h.g0.resolve_left (by omega)
  have hs := h.g
  rw [hg.1] at hs
  have hz := seg_zero15 hs
  obtain ⟨k, d, n, g, s, c⟩ := m
  simp only at *
  subst h4 hd hn hz
  rw [hg.1]
  rfl
set_option maxHeartbeats 6400000 in
set_option maxRecDepth 100000 in
theorem decode15_any (v : Value) (m : MS) (x : Int) (w : World) (hT : Tabs w) (h0 : m.kind = 0) (hsn : Mch.Sane m) (hv : RM w v m) : Calls Tryz.prog 29 #[v, .int .i64 x] w (FedM v (Mch.feedK m x) w) := by
  have hv0 := hv
  obtain ⟨vn, vg, vc, rfl, hvn, hvg, hvc⟩ := hv
  obtain ⟨pn, cn, rfl⟩ := ri_form hvn
  obtain ⟨pg, cg, rfl⟩ := ri_form hvg
  obtain ⟨pc, cc, rfl⟩ := ri_form hvc
  have hbox0 := blk_new w #[.int .i64 m.kind, .string ⟨m.d.toArray⟩, .slice pn m.n.length cn, .slice pg m.g.length cg, .bool m.s.on, .int .i64 m.s.kind, .bool m.s.pict, .bool m.s.odd, .slice pc m.c.length cc] 41
  have hbox := blk_alloc hbox0 (.cells (bare9 0) 41)
  have hres := blk_new (w.alloc (.cells #[.int .i64 m.kind, .string ⟨m.d.toArray⟩, .slice pn m.n.length cn, .slice pg m.g.length cg, .bool m.s.on, .int .i64 m.s.kind, .bool m.s.pict, .bool m.s.odd, .slice pc m.c.length cc] 41)) (bare9 0) 41
  rw [World.size_alloc] at hres
  have hb0 := (below_new w (.cells #[.int .i64 m.kind, .string ⟨m.d.toArray⟩, .slice pn m.n.length cn, .slice pg m.g.length cg, .bool m.s.on, .int .i64 m.s.kind, .bool m.s.pict, .bool m.s.odd, .slice pc m.c.length cc] 41)).alloc (by simp) (.cells (bare9 0) 41)
  obtain ⟨W, hW⟩ : ∃ W, (w.alloc (.cells #[.int .i64 m.kind, .string ⟨m.d.toArray⟩, .slice pn m.n.length cn, .slice pg m.g.length cg, .bool m.s.on, .int .i64 m.s.kind, .bool m.s.pict, .bool m.s.odd, .slice pc m.c.length cc] 41)).alloc (.cells (bare9 0) 41) = W := ⟨_, rfl⟩
  rw [hW] at hbox hres hb0
  clear hbox0
  replace hW := Lib.hid hW
  obtain ⟨F1, F2, hF⟩ : ∃ a b, Dec.feedL m.d (Mch.byteOf x) = (a, b) := ⟨_, _, rfl⟩
  have hfk : Mch.feedK m x = ({ Mch.bare 0 with d := F1 }, F2) := by unfold Mch.feedK; rw [if_pos h0, hF]
  rw [hfk]
  have hby := byte_wrap15 x
  have hfd := fun W' hT' => Tx.feed_any ⟨m.d.toArray⟩ (Mch.byteOf x) W' hT'
  rw [Dec.feed_eq, hF] at hfd
  dsimp only at hfd
  have hTW := tabs_below15 hT hb0
  unfold mchV strV
  replace hfd := Lib.hid hfd
  replace hTW := Lib.hid hTW
  replace hbox := Lib.hid hbox
  replace hres := Lib.hid hres
  replace hb0 := Lib.hid hb0
  replace hv0 := Lib.hid hv0
  replace hvn := Lib.hid hvn
  replace hvg := Lib.hid hvg
  replace hvc := Lib.hid hvc
  replace h0 := Lib.hid h0
  replace hsn := Lib.hid hsn
  clear hF hfk hT
  go_enter Tryz.func29, Tryz.ntmps29
  go_upto_region 1 with (fail)
  rw [hW.out]
  obtain ⟨k0, k1, k2, k3, k4, k5, k6, k7, k8⟩ := held9 hbox.out
  go_wp2_with (go_at_call 57; refine (hfd.out _ hTW.out).mono ?_; rintro e w3 ⟨vt, rfl, hot, q3⟩; have hot := ownI_mono (show OwnI _ vt F2 w3 from hot) hb0.out.size; obtain ⟨pt, ct, rfl⟩ := ri_form (ri_of_own hot); have r3 := blk_alloc (blk_below hres.out q3) (.cells #[.string ⟨F1.toArray⟩] 35); have b3 := Lib.hid ((below_on hb0.out q3).alloc (below_on hb0.out q3).size (.cells #[.string ⟨F1.toArray⟩] 35)); have o3 := Lib.hid (ownI_alloc hot (.cells #[.string ⟨F1.toArray⟩] 35)); obtain ⟨y0, y1, y2, y3, y4, y5, y6, y7, y8⟩ := held9 r3; have fy0 := blk_thaw r3 0; have fy1 := blk_thaw r3 1; have fy2 := blk_thaw r3 2; have fy3 := blk_thaw r3 3; have fy4 := blk_thaw r3 4; have fy5 := blk_thaw r3 5; have fy6 := blk_thaw r3 6; have fy7 := blk_thaw r3 7; have fy8 := blk_thaw r3 8; replace r3 := Lib.hid r3; clear q3)
  have e3 := r3.out
  have hfin := fed_gen (v := mchV m (.slice pn m.n.length cn) (.slice pg m.g.length cg) (.slice pc m.c.length cc)) (q := ({ Mch.bare 0 with d := F1 }, F2)) r3.out (Nat.le_succ w.heap.size) ⟨ri_nil15 _, at_nil _ _ _⟩ ⟨ri_nil15 _, at_nil _ _ _⟩ ⟨ri_nil15 _, at_nil _ _ _⟩ ⟨ri_of_own o3.out, at_own o3.out e3⟩ b3.out
  unfold set9 strV at hfin
  have r3' := r3.out
  have n9 := blk_set9 r3' (.int .i64 0) (.string ⟨F1.toArray⟩) nilV nilV (.bool false) (.int .i64 0) (.bool false) (.bool false) nilV
  unfold set9 at n9
  obtain ⟨z0, z1, z2, z3, z4, z5, z6, z7, z8⟩ := held9 n9
  refine bodyPost_ret (v := .tuple #[.agg #[(.int .i64 0), (.string ⟨F1.toArray⟩), nilV, nilV, (.bool false), (.int .i64 0), (.bool false), (.bool false), nilV], .slice pt F2.length ct]) ?_ rfl ?_
  · simp [results, Tryz.results29, go_sem, z0, z1, z2, z3, z4, z5, z6, z7, z8]
  · exact hfin
set_option maxHeartbeats 6400000 in
set_option maxRecDepth 100000 in
theorem norm15_any (v : Value) (m : MS) (x : Int) (w : World) (h0 : m.kind = 1) (hsn : Mch.Sane m) (hsm : Mch.Small m) (hv : RM w v m) : Calls Tryz.prog 30 #[v, .int .i64 x] w (FedM v (Mch.feedK m x) w) := by
  have hv0 := hv
  obtain ⟨vn, vg, vc, rfl, hvn, hvg, hvc⟩ := hv
  obtain ⟨pn, cn, rfl⟩ := ri_form hvn
  obtain ⟨pg, cg, rfl⟩ := ri_form hvg
  obtain ⟨pc, cc, rfl⟩ := ri_form hvc
  have hbox0 := blk_new w #[.int .i64 m.kind, .string ⟨m.d.toArray⟩, .slice pn m.n.length cn, .slice pg m.g.length cg, .bool m.s.on, .int .i64 m.s.kind, .bool m.s.pict, .bool m.s.odd, .slice pc m.c.length cc] 41
  have hbox := blk_alloc hbox0 (.cells (bare9 0) 41)
  have hres := blk_new (w.alloc (.cells #[.int .i64 m.kind, .string ⟨m.d.toArray⟩, .slice pn m.n.length cn, .slice pg m.g.length cg, .bool m.s.on, .int .i64 m.s.kind, .bool m.s.pict, .bool m.s.odd, .slice pc m.c.length cc] 41)) (bare9 0) 41
  rw [World.size_alloc] at hres
  have hb0 := (below_new w (.cells #[.int .i64 m.kind, .string ⟨m.d.toArray⟩, .slice pn m.n.length cn, .slice pg m.g.length cg, .bool m.s.on, .int .i64 m.s.kind, .bool m.s.pict, .bool m.s.odd, .slice pc m.c.length cc] 41)).alloc (by simp) (.cells (bare9 0) 41)
  obtain ⟨W, hW⟩ : ∃ W, (w.alloc (.cells #[.int .i64 m.kind, .string ⟨m.d.toArray⟩, .slice pn m.n.length cn, .slice pg m.g.length cg, .bool m.s.on, .int .i64 m.s.kind, .bool m.s.pict, .bool m.s.odd, .slice pc m.c.length cc] 41)).alloc (.cells (bare9 0) 41) = W := ⟨_, rfl⟩
  rw [hW] at hbox hres hb0
  clear hbox0
  replace hW := Lib.hid hW
  obtain ⟨F1, F2, hF⟩ : ∃ a b, Nor.feedI m.n x = (a, b) := ⟨_, _, rfl⟩
  have hfk : Mch.feedK m x = ({ Mch.bare 1 with n := F1 }, F2) := by unfold Mch.feedK; rw [if_neg (by omega), if_pos h0, hF]
  rw [hfk]
  have hfd := fun W' (h : RI W' (.slice pn m.n.length cn) m.n) => feedC9 _ m.n x W' (by have := hsm.n; omega) h
  rw [hF] at hfd
  unfold Fed at hfd
  dsimp only at hfd
  have hvnW := ri_below hvn hb0
  unfold mchV strV
  replace hfd := Lib.hid hfd
  replace hbox := Lib.hid hbox
  replace hres := Lib.hid hres
  replace hb0 := Lib.hid hb0
  replace hv0 := Lib.hid hv0
  replace hvn := Lib.hid hvn
  replace hvg := Lib.hid hvg
  replace hvc := Lib.hid hvc
  replace h0 := Lib.hid h0
  replace hsn := Lib.hid hsn
  replace hvnW := Lib.hid hvnW
  clear hF hfk
  go_enter Tryz.func30, Tryz.ntmps30
  go_upto_region 1 with (fail)
  rw [hW.out]
  obtain ⟨k0, k1, k2, k3, k4, k5, k6, k7, k8⟩ := held9 hbox.out
  go_wp2_with (go_at_call 58; refine (hfd.out _ hvnW.out).mono ?_; rintro e w3 ⟨va, vb, rfl, ha, hb, q3⟩; have ha := ownI_mono ha hb0.out.size; have hb := ownI_mono hb hb0.out.size; obtain ⟨pa, ca, rfl⟩ := ri_form (ri_of_own ha); obtain ⟨pb, cb, rfl⟩ := ri_form (ri_of_own hb); have r3 := blk_alloc (blk_below hres.out q3) (.cells #[.slice pa F1.length ca] 36); have b3 := Lib.hid ((below_on hb0.out q3).alloc (below_on hb0.out q3).size (.cells #[.slice pa F1.length ca] 36)); have a3 := Lib.hid (ownI_alloc ha (.cells #[.slice pa F1.length ca] 36)); have o3 := Lib.hid (ownI_alloc hb (.cells #[.slice pa F1.length ca] 36)); obtain ⟨y0, y1, y2, y3, y4, y5, y6, y7, y8⟩ := held9 r3; have fy0 := blk_thaw r3 0; have fy1 := blk_thaw r3 1; have fy2 := blk_thaw r3 2; have fy3 := blk_thaw r3 3; have fy4 := blk_thaw r3 4; have fy5 := blk_thaw r3 5; have fy6 := blk_thaw r3 6; have fy7 := blk_thaw r3 7; have fy8 := blk_thaw r3 8; replace r3 := Lib.hid r3; clear q3)
  have e3 := r3.out
  have hfin := fed_gen (v := mchV m (.slice pn m.n.length cn) (.slice pg m.g.length cg) (.slice pc m.c.length cc)) (q := ({ Mch.bare 1 with n := F1 }, F2)) r3.out (Nat.le_succ w.heap.size) ⟨ri_of_own a3.out, at_own a3.out e3⟩ ⟨ri_nil15 _, at_nil _ _ _⟩ ⟨ri_nil15 _, at_nil _ _ _⟩ ⟨ri_of_own o3.out, at_own o3.out e3⟩ b3.out
  unfold set9 strV at hfin
  have r3' := r3.out
  have n9 := blk_set9 r3' (.int .i64 1) (.string ⟨#[]⟩) (.slice pa F1.length ca) nilV (.bool false) (.int .i64 0) (.bool false) (.bool false) nilV
  unfold set9 at n9
  obtain ⟨z0, z1, z2, z3, z4, z5, z6, z7, z8⟩ := held9 n9
  refine bodyPost_ret (v := .tuple #[.agg #[(.int .i64 1), (.string ⟨#[]⟩), (.slice pa F1.length ca), nilV, (.bool false), (.int .i64 0), (.bool false), (.bool false), nilV], .slice pb F2.length cb]) ?_ rfl ?_
  · simp [results, Tryz.results30, go_sem, z0, z1, z2, z3, z4, z5, z6, z7, z8]
  · exact hfin
set_option maxHeartbeats 6400000 in
set_option maxRecDepth 100000 in
theorem fold15_any (v : Value) (m : MS) (x : Int) (w : World) (h0 : m.kind = 2) (hsn : Mch.Sane m) (hsm : Mch.Small m) (hx : I64 x) (hv : RM w v m) : Calls Tryz.prog 31 #[v, .int .i64 x] w (FedM v (Mch.feedK m x) w) := by
  have hv0 := hv
  obtain ⟨vn, vg, vc, rfl, hvn, hvg, hvc⟩ := hv
  obtain ⟨pn, cn, rfl⟩ := ri_form hvn
  obtain ⟨pg, cg, rfl⟩ := ri_form hvg
  obtain ⟨pc, cc, rfl⟩ := ri_form hvc
  have hbox0 := blk_new w #[.int .i64 m.kind, .string ⟨m.d.toArray⟩, .slice pn m.n.length cn, .slice pg m.g.length cg, .bool m.s.on, .int .i64 m.s.kind, .bool m.s.pict, .bool m.s.odd, .slice pc m.c.length cc] 41
  have hbox := blk_alloc hbox0 (.cells (bare9 0) 41)
  have hres := blk_new (w.alloc (.cells #[.int .i64 m.kind, .string ⟨m.d.toArray⟩, .slice pn m.n.length cn, .slice pg m.g.length cg, .bool m.s.on, .int .i64 m.s.kind, .bool m.s.pict, .bool m.s.odd, .slice pc m.c.length cc] 41)) (bare9 0) 41
  rw [World.size_alloc] at hres
  have hb0 := (below_new w (.cells #[.int .i64 m.kind, .string ⟨m.d.toArray⟩, .slice pn m.n.length cn, .slice pg m.g.length cg, .bool m.s.on, .int .i64 m.s.kind, .bool m.s.pict, .bool m.s.odd, .slice pc m.c.length cc] 41)).alloc (by simp) (.cells (bare9 0) 41)
  obtain ⟨W, hW⟩ : ∃ W, (w.alloc (.cells #[.int .i64 m.kind, .string ⟨m.d.toArray⟩, .slice pn m.n.length cn, .slice pg m.g.length cg, .bool m.s.on, .int .i64 m.s.kind, .bool m.s.pict, .bool m.s.odd, .slice pc m.c.length cc] 41)).alloc (.cells (bare9 0) 41) = W := ⟨_, rfl⟩
  rw [hW] at hbox hres hb0
  clear hbox0
  replace hW := Lib.hid hW
  obtain ⟨F1, F2, hF⟩ : ∃ a b, Fol.feedI m.n x = (a, b) := ⟨_, _, rfl⟩
  have hfk : Mch.feedK m x = ({ Mch.bare 2 with n := F1 }, F2) := by unfold Mch.feedK; rw [if_neg (by omega), if_neg (by omega), if_pos h0, hF]
  rw [hfk]
  have hfd := fun W' (h : RI W' (.slice pn m.n.length cn) m.n) => feed10_any _ m.n x W' (by have := hsm.n; omega) h hx
  rw [hF] at hfd
  unfold Fed at hfd
  dsimp only at hfd
  have hvnW := ri_below hvn hb0
  unfold mchV strV
  replace hfd := Lib.hid hfd
  replace hbox := Lib.hid hbox
  replace hres := Lib.hid hres
  replace hb0 := Lib.hid hb0
  replace hv0 := Lib.hid hv0
  replace hvn := Lib.hid hvn
  replace hvg := Lib.hid hvg
  replace hvc := Lib.hid hvc
  replace h0 := Lib.hid h0
  replace hsn := Lib.hid hsn
  replace hvnW := Lib.hid hvnW
  clear hF hfk
  go_enter Tryz.func31, Tryz.ntmps31
  go_upto_region 1 with (fail)
  rw [hW.out]
  obtain ⟨k0, k1, k2, k3, k4, k5, k6, k7, k8⟩ := held9 hbox.out
  go_wp2_with (go_at_call 59; refine (hfd.out _ hvnW.out).mono ?_; rintro e w3 ⟨va, vb, rfl, ha, hb, q3⟩; have ha := ownI_mono ha hb0.out.size; have hb := ownI_mono hb hb0.out.size; obtain ⟨pa, ca, rfl⟩ := ri_form (ri_of_own ha); obtain ⟨pb, cb, rfl⟩ := ri_form (ri_of_own hb); have r3 := blk_alloc (blk_below hres.out q3) (.cells #[.slice pa F1.length ca] 36); have b3 := Lib.hid ((below_on hb0.out q3).alloc (below_on hb0.out q3).size (.cells #[.slice pa F1.length ca] 36)); have a3 := Lib.hid (ownI_alloc ha (.cells #[.slice pa F1.length ca] 36)); have o3 := Lib.hid (ownI_alloc hb (.cells #[.slice pa F1.length ca] 36)); obtain ⟨y0, y1, y2, y3, y4, y5, y6, y7, y8⟩ := held9 r3; have fy0 := blk_thaw r3 0; have fy1 := blk_thaw r3 1; have fy2 := blk_thaw r3 2; have fy3 := blk_thaw r3 3; have fy4 := blk_thaw r3 4; have fy5 := blk_thaw r3 5; have fy6 := blk_thaw r3 6; have fy7 := blk_thaw r3 7; have fy8 := blk_thaw r3 8; replace r3 := Lib.hid r3; clear q3)
  have e3 := r3.out
  have hfin := fed_gen (v := mchV m (.slice pn m.n.length cn) (.slice pg m.g.length cg) (.slice pc m.c.length cc)) (q := ({ Mch.bare 2 with n := F1 }, F2)) r3.out (Nat.le_succ w.heap.size) ⟨ri_of_own a3.out, at_own a3.out e3⟩ ⟨ri_nil15 _, at_nil _ _ _⟩ ⟨ri_nil15 _, at_nil _ _ _⟩ ⟨ri_of_own o3.out, at_own o3.out e3⟩ b3.out
  unfold set9 strV at hfin
  have r3' := r3.out
  have n9 := blk_set9 r3' (.int .i64 2) (.string ⟨#[]⟩) (.slice pa F1.length ca) nilV (.bool false) (.int .i64 0) (.bool false) (.bool false) nilV
  unfold set9 at n9
  obtain ⟨z0, z1, z2, z3, z4, z5, z6, z7, z8⟩ := held9 n9
  refine bodyPost_ret (v := .tuple #[.agg #[(.int .i64 2), (.string ⟨#[]⟩), (.slice pa F1.length ca), nilV, (.bool false), (.int .i64 0), (.bool false), (.bool false), nilV], .slice pb F2.length cb]) ?_ rfl ?_
  · simp [results, Tryz.results31, go_sem, z0, z1, z2, z3, z4, z5, z6, z7, z8]
  · exact hfin
set_option maxHeartbeats 6400000 in
set_option maxRecDepth 100000 in
theorem segment15_any (v : Value) (m : MS) (x : Int) (w : World) (h0 : m.kind = 3) (hsn : Mch.Sane m) (hsm : Mch.Small m) (hv : RM w v m) : Calls Tryz.prog 32 #[v, .int .i64 x] w (FedM v (Mch.feedK m x) w) := by
  have hv0 := hv
  obtain ⟨vn, vg, vc, rfl, hvn, hvg, hvc⟩ := hv
  obtain ⟨pn, cn, rfl⟩ := ri_form hvn
  obtain ⟨pg, cg, rfl⟩ := ri_form hvg
  obtain ⟨pc, cc, rfl⟩ := ri_form hvc
  have hbox0 := blk_new w #[.int .i64 m.kind, .string ⟨m.d.toArray⟩, .slice pn m.n.length cn, .slice pg m.g.length cg, .bool m.s.on, .int .i64 m.s.kind, .bool m.s.pict, .bool m.s.odd, .slice pc m.c.length cc] 41
  have hbox := blk_alloc hbox0 (.cells (bare9 0) 41)
  have hres := blk_new (w.alloc (.cells #[.int .i64 m.kind, .string ⟨m.d.toArray⟩, .slice pn m.n.length cn, .slice pg m.g.length cg, .bool m.s.on, .int .i64 m.s.kind, .bool m.s.pict, .bool m.s.odd, .slice pc m.c.length cc] 41)) (bare9 0) 41
  rw [World.size_alloc] at hres
  have hb0 := (below_new w (.cells #[.int .i64 m.kind, .string ⟨m.d.toArray⟩, .slice pn m.n.length cn, .slice pg m.g.length cg, .bool m.s.on, .int .i64 m.s.kind, .bool m.s.pict, .bool m.s.odd, .slice pc m.c.length cc] 41)).alloc (by simp) (.cells (bare9 0) 41)
  obtain ⟨W, hW⟩ : ∃ W, (w.alloc (.cells #[.int .i64 m.kind, .string ⟨m.d.toArray⟩, .slice pn m.n.length cn, .slice pg m.g.length cg, .bool m.s.on, .int .i64 m.s.kind, .bool m.s.pict, .bool m.s.odd, .slice pc m.c.length cc] 41)).alloc (.cells (bare9 0) 41) = W := ⟨_, rfl⟩
  rw [hW] at hbox hres hb0
  clear hbox0
  replace hW := Lib.hid hW
  obtain ⟨G1, S1, T1, hF⟩ : ∃ a b c, Sgm.feedI m.g m.s x = ((a, b), c) := ⟨_, _, _, rfl⟩
  have hfk : Mch.feedK m x = ({ Mch.bare 3 with g := G1, s := S1 }, Mch.cutOf T1) := by unfold Mch.feedK; rw [if_neg (by omega), if_neg (by omega), if_neg (by omega), if_pos h0, hF]
  rw [hfk]
  have hTl : T1.length ≤ 1000 := by
    have h := seg_told15 m.g m.s x
    rw [hF] at h
    dsimp only at h
    omega
  have hfd := fun W' (h : RI W' (.slice pg m.g.length cg) m.g) => feed12_own _ m.g m.s x W' (by have := hsm.g; omega) h
  rw [hF] at hfd
  obtain ⟨s1, s2, s3, s4⟩ := S1
  unfold FedO12 sgV at hfd
  dsimp only at hfd
  have hcu := fun W' u (h : RI W' u T1) => withCut15_any u T1 W' hTl h
  have hvgW := ri_below hvg hb0
  have hlt := blk_lt hres
  unfold mchV strV
  replace hfd := Lib.hid hfd
  replace hcu := Lib.hid hcu
  replace hbox := Lib.hid hbox
  replace hres := Lib.hid hres
  replace hb0 := Lib.hid hb0
  replace hv0 := Lib.hid hv0
  replace hvn := Lib.hid hvn
  replace hvg := Lib.hid hvg
  replace hvc := Lib.hid hvc
  replace h0 := Lib.hid h0
  replace hsn := Lib.hid hsn
  replace hvgW := Lib.hid hvgW
  replace hTl := Lib.hid hTl
  replace hlt := Lib.hid hlt
  clear hF hfk
  go_enter Tryz.func32, Tryz.ntmps32
  go_upto_region 1 with (fail)
  rw [hW.out]
  obtain ⟨k0, k1, k2, k3, k4, k5, k6, k7, k8⟩ := held9 hbox.out
  go_wp2_with fail
  refine (hfd.out _ hvgW.out).mono ?_
  rintro e w3 ⟨va, vb, rfl, ha, hb, q3⟩
  have ha := ownI_mono ha hb0.out.size
  have hb := ownI_mono hb hb0.out.size
  obtain ⟨pa, ca, rfl⟩ := ri_form (ri_of_own ha)
  obtain ⟨pb, cb, rfl⟩ := ri_form (ri_of_own hb)
  have hl3 := Lib.hid (Nat.lt_of_lt_of_le hlt.out q3.size)
  have r3 := blk_alloc (blk_below hres.out q3) (.cells #[.slice pa G1.length ca, .bool s1, .int .i64 s2, .bool s3, .bool s4] 39)
  have b3 := Lib.hid ((below_on hb0.out q3).alloc (below_on hb0.out q3).size (.cells #[.slice pa G1.length ca, .bool s1, .int .i64 s2, .bool s3, .bool s4] 39))
  have a3 := Lib.hid (ownI_alloc ha (.cells #[.slice pa G1.length ca, .bool s1, .int .i64 s2, .bool s3, .bool s4] 39))
  have t3 := Lib.hid (ownI_alloc hb (.cells #[.slice pa G1.length ca, .bool s1, .int .i64 s2, .bool s3, .bool s4] 39))
  have x3 := Lib.hid (blk_new w3 #[.slice pa G1.length ca, .bool s1, .int .i64 s2, .bool s3, .bool s4] 39)
  obtain ⟨y0, y1, y2, y3, y4, y5, y6, y7, y8⟩ := held9 r3
  have fy0 := blk_thaw r3 0
  have fy1 := blk_thaw r3 1
  have fy2 := blk_thaw r3 2
  have fy3 := blk_thaw r3 3
  have fy4 := blk_thaw r3 4
  have fy5 := blk_thaw r3 5
  have fy6 := blk_thaw r3 6
  have fy7 := blk_thaw r3 7
  have fy8 := blk_thaw r3 8
  replace r3 := Lib.hid r3
  clear q3
  clear ha hb
  go_upto_region 2 with (fail)
  clear y0 y1 y2 y3 y4 y5 y6 y7 y8 fy0 fy1 fy2 fy3 fy4 fy5 fy6 fy7 fy8 k0 k1 k2 k3 k4 k5 k6 k7 k8
  obtain ⟨w4, hw4⟩ : ∃ w4, w3.alloc (.cells #[.slice pa G1.length ca, .bool s1, .int .i64 s2, .bool s3, .bool s4] 39) = w4 := ⟨_, rfl⟩
  rw [hw4] at r3 b3 a3 t3 x3 ⊢
  replace hw4 := Lib.hid hw4
  have t4 := Lib.hid (ri_drew (ri_of_own t3.out))
  refine wp_region_held_drew (S := fun w' => w'.cell? ⟨w3.heap.size, 0, none⟩ = some (.slice pa G1.length ca) ∧ w'.cell? ⟨w3.heap.size, 1, none⟩ = some (.bool s1) ∧ w'.cell? ⟨w3.heap.size, 2, none⟩ = some (.int .i64 s2) ∧ w'.cell? ⟨w3.heap.size, 3, none⟩ = some (.bool s3) ∧ w'.cell? ⟨w3.heap.size, 4, none⟩ = some (.bool s4)) (by kernel_rfl) (held5_15 x3.out) (fun hS => ?_)
  refine' wpAnyH_take (i := 0) (oi := ⟨_, _, _, _, _, _⟩) (v := _) rfl (by kernel_rfl) (by kernel_rfl) (by kernel_rfl) (fun _ _ _ h => h) (Or.inl ⟨by rfl, ?hy0⟩) hS ?rest0
  case hy0 => (intro wz hSw; (try dsimp only at hSw); go_simp; try with_reducible rfl)
  try simp only [Act.put, List.setIfInBounds_toArray, List.set_cons_zero, List.set_cons_succ]
  refine' wpAnyH_take (i := 1) (oi := ⟨_, _, _, _, _, _⟩) (v := _) rfl (by kernel_rfl) (by kernel_rfl) (by kernel_rfl) (fun _ _ _ h => h) (Or.inl ⟨by rfl, ?hy1⟩) hS ?rest1
  case hy1 => (intro wz hSw; (try dsimp only at hSw); go_simp; try with_reducible rfl)
  try simp only [Act.put, List.setIfInBounds_toArray, List.set_cons_zero, List.set_cons_succ]
  refine' wpAnyH_take (i := 2) (oi := ⟨_, _, _, _, _, _⟩) (v := _) rfl (by kernel_rfl) (by kernel_rfl) (by kernel_rfl) (fun _ _ _ h => h) (Or.inl ⟨by rfl, ?hy2⟩) hS ?rest2
  case hy2 => (intro wz hSw; (try dsimp only at hSw); go_simp; try with_reducible rfl)
  try simp only [Act.put, List.setIfInBounds_toArray, List.set_cons_zero, List.set_cons_succ]
  refine wpAnyH_ready (rs := [3]) (by kernel_rfl) (by simp) (AllReadyH.cons rfl (fun K hK => ?_) AllReadyH.nil)
  go_simp
  go_at_call 61
  refine (hcu.out _ _ t4.out).mono ?_
  rintro e w5 ⟨vt, rfl, ht, q5⟩
  obtain ⟨pt, ct, rfl⟩ := ri_form (ri_of_own ht)
  have r5 := blk_below (w := w4.drew) r3.out q5
  have b5 := Lib.hid (below_on (show Below w.heap.size w w4.drew from b3.out.drew) q5)
  have a5 := Lib.hid (ownI_below (w := w4.drew) a3.out q5)
  have t5 := Lib.hid (ownI_mono ht (show w.heap.size ≤ w4.drew.heap.size from b3.out.size))
  have x5 := Lib.hid (blk_below (w := w4.drew) x3.out q5)
  clear q5 ht
  go_wp2_with fail
  refine hK.out _ _ (held5_15 x5.out) (fun hSn => ?_)
  clear hS
  have hS := hSn
  clear hSn
  clear hK K
  try simp only [Act.put, List.setIfInBounds_toArray, List.set_cons_zero, List.set_cons_succ]
  obtain ⟨y0, y1, y2, y3, y4, y5, y6, y7, y8⟩ := held9 r5
  have fy0 := blk_thaw r5 0
  have fy1 := blk_thaw r5 1
  have fy2 := blk_thaw r5 2
  have fy3 := blk_thaw r5 3
  have fy4 := blk_thaw r5 4
  have fy5 := blk_thaw r5 5
  have fy6 := blk_thaw r5 6
  have fy7 := blk_thaw r5 7
  have fy8 := blk_thaw r5 8
  replace r5 := Lib.hid r5
  refine wpAnyH_ready (rs := [4]) (by kernel_rfl) (by simp) (AllReadyH.cons rfl (fun K hK => ?_) AllReadyH.nil)
  go_simp
  go_wp2_with fail
  refine hK.out _ _ (by have h := blk_but9 x5.out (show w3.heap.size ≠ w.heap.size + 1 by have := hl3.out; omega) (.int .i64 3) (.string ⟨#[]⟩) nilV (.slice pa G1.length ca) (.bool s1) (.int .i64 s2) (.bool s3) (.bool s4) nilV; unfold set9 at h; exact held5_15 h) (fun hSn => ?_)
  clear hS
  have hS := hSn
  clear hSn
  clear hK K
  try simp only [Act.put, List.setIfInBounds_toArray, List.set_cons_zero, List.set_cons_succ]
  refine' wpAnyH_take (i := 5) (oi := ⟨_, _, _, _, _, _⟩) (v := _) rfl (by kernel_rfl) (by kernel_rfl) (by kernel_rfl) (fun _ _ _ h => h) (Or.inl ⟨by rfl, ?hy5⟩) hS ?rest5
  case hy5 => (intro wz hSw; (try dsimp only at hSw); go_simp; try with_reducible rfl)
  try simp only [Act.put, List.setIfInBounds_toArray, List.set_cons_zero, List.set_cons_succ]
  refine wpAnyH_done (by kernel_rfl) ?_ _
  go_wp2_with fail
  have e5 := r5.out
  have hfin := fed_gen (v := mchV m (.slice pn m.n.length cn) (.slice pg m.g.length cg) (.slice pc m.c.length cc)) (q := ({ Mch.bare 3 with g := G1, s := ⟨s1, s2, s3, s4⟩ }, Mch.cutOf T1)) r5.out (Nat.le_succ w.heap.size) ⟨ri_nil15 _, at_nil _ _ _⟩ ⟨ri_of_own a5.out, at_own a5.out e5⟩ ⟨ri_nil15 _, at_nil _ _ _⟩ ⟨ri_of_own t5.out, at_own t5.out e5⟩ b5.out
  unfold set9 strV at hfin
  have r3' := r5.out
  have n9 := blk_set9 r3' (.int .i64 3) (.string ⟨#[]⟩) nilV (.slice pa G1.length ca) (.bool s1) (.int .i64 s2) (.bool s3) (.bool s4) nilV
  unfold set9 at n9
  obtain ⟨z0, z1, z2, z3, z4, z5, z6, z7, z8⟩ := held9 n9
  refine bodyPost_ret (v := .tuple #[.agg #[(.int .i64 3), (.string ⟨#[]⟩), nilV, (.slice pa G1.length ca), (.bool s1), (.int .i64 s2), (.bool s3), (.bool s4), nilV], .slice pt (Mch.cutOf T1).length ct]) ?_ rfl ?_
  · simp [results, Tryz.results32, go_sem, z0, z1, z2, z3, z4, z5, z6, z7, z8]
  · exact hfin
set_option maxHeartbeats 6400000 in
set_option maxRecDepth 100000 in
theorem cut15_any (v : Value) (m : MS) (w : World) (h4 : m.kind = 4) (hsn : Mch.Sane m) (hsm : Mch.Small m) (hv : RM w v m) : Calls Tryz.prog 33 #[v, .int .i64 (-1)] w (FedM v (Mch.feedK m (-1)) w) := by
  have hv0 := hv
  obtain ⟨vn, vg, vc, rfl, hvn, hvg, hvc⟩ := hv
  obtain ⟨pn, cn, rfl⟩ := ri_form hvn
  obtain ⟨pg, cg, rfl⟩ := ri_form hvg
  obtain ⟨pc, cc, rfl⟩ := ri_form hvc
  have hbox0 := blk_new w #[.int .i64 m.kind, .string ⟨m.d.toArray⟩, .slice pn m.n.length cn, .slice pg m.g.length cg, .bool m.s.on, .int .i64 m.s.kind, .bool m.s.pict, .bool m.s.odd, .slice pc m.c.length cc] 41
  have hbox := blk_alloc hbox0 (.cells (bare9 0) 41)
  have hres := blk_new (w.alloc (.cells #[.int .i64 m.kind, .string ⟨m.d.toArray⟩, .slice pn m.n.length cn, .slice pg m.g.length cg, .bool m.s.on, .int .i64 m.s.kind, .bool m.s.pict, .bool m.s.odd, .slice pc m.c.length cc] 41)) (bare9 0) 41
  rw [World.size_alloc] at hres
  have hb0 := (below_new w (.cells #[.int .i64 m.kind, .string ⟨m.d.toArray⟩, .slice pn m.n.length cn, .slice pg m.g.length cg, .bool m.s.on, .int .i64 m.s.kind, .bool m.s.pict, .bool m.s.odd, .slice pc m.c.length cc] 41)).alloc (by simp) (.cells (bare9 0) 41)
  obtain ⟨W, hW⟩ : ∃ W, (w.alloc (.cells #[.int .i64 m.kind, .string ⟨m.d.toArray⟩, .slice pn m.n.length cn, .slice pg m.g.length cg, .bool m.s.on, .int .i64 m.s.kind, .bool m.s.pict, .bool m.s.odd, .slice pc m.c.length cc] 41)).alloc (.cells (bare9 0) 41) = W := ⟨_, rfl⟩
  rw [hW] at hbox hres hb0
  clear hbox0
  replace hW := Lib.hid hW
  have hfk : Mch.feedK m (-1) = (Mch.bare 4, Mch.itemsOf (Frm.putF m.c)) := by
    unfold Mch.feedK
    rw [if_neg (by omega), if_neg (by omega), if_neg (by omega), if_neg (by omega), if_pos rfl]
  rw [hfk]
  clear hfk
  have hvcW := ri_below hvc hb0
  have hc32 := hsn.c
  have hput := fun W' (h : RI W' (.slice pc m.c.length cc) m.c) => put13_any _ m.c W' (by omega) h
  have hnew := fun W' => new15_any 4 W'
  rw [if_pos (by omega)] at hnew
  have hpl : (Frm.putF m.c).length ≤ 100000 := by have := Mch.putF_len m.c; omega
  have hit := fun W' u (h : RBytes W' u (Frm.putF m.c)) => items15_any u (Frm.putF m.c) W' hpl h
  unfold ToldB at hput
  unfold Makes at hit
  unfold mchV strV
  replace hput := Lib.hid hput
  replace hnew := Lib.hid hnew
  replace hit := Lib.hid hit
  replace hbox := Lib.hid hbox
  replace hres := Lib.hid hres
  replace hb0 := Lib.hid hb0
  replace hv0 := Lib.hid hv0
  replace hvn := Lib.hid hvn
  replace hvg := Lib.hid hvg
  replace hvc := Lib.hid hvc
  replace h4 := Lib.hid h4
  replace hsn := Lib.hid hsn
  replace hvcW := Lib.hid hvcW
  replace hpl := Lib.hid hpl
  replace hc32 := Lib.hid hc32
  go_enter Tryz.func33, Tryz.ntmps33
  go_upto_region 2 with (fail)
  rw [hW.out]
  have hc8 := Lib.hid (blk_cell hbox.out 8 _ rfl)
  refine wp_region_held_drew (S := fun w' => w'.cell? ⟨w.heap.size, 8, none⟩ = some (.slice pc m.c.length cc)) (by kernel_rfl) (hc8.out) (fun hS => ?_)
  refine' wpAnyH_take (i := 1) (oi := ⟨_, _, _, _, _, _⟩) (v := _) rfl (by kernel_rfl) (by kernel_rfl) (by kernel_rfl) (fun _ _ _ h => h) (Or.inl ⟨by rfl, ?hy1⟩) hS ?rest1
  case hy1 => (intro wz hSw; (try dsimp only at hSw); go_simp; try with_reducible rfl)
  try simp only [Act.put, List.setIfInBounds_toArray, List.set_cons_zero, List.set_cons_succ]
  refine' wpAnyH_take (i := 2) (oi := ⟨_, _, _, _, _, _⟩) (v := _) rfl (by kernel_rfl) (by kernel_rfl) (by kernel_rfl) (fun _ _ _ h => h) (Or.inl ⟨by rfl, ?hy2⟩) hS ?rest2
  case hy2 => (intro wz hSw; (try dsimp only at hSw); go_simp; try with_reducible rfl)
  try simp only [Act.put, List.setIfInBounds_toArray, List.set_cons_zero, List.set_cons_succ]
  refine wpAnyH_ready (rs := [0]) (by kernel_rfl) (by simp) (AllReadyH.cons rfl (fun K hK => ?_) AllReadyH.nil)
  go_simp
  go_at_call 18
  refine (hnew.out _).mono ?_
  rintro e w2 ⟨rfl, q2⟩
  have r2 := Lib.hid (blk_below (w := W.drew) hres.out q2)
  have v2 := Lib.hid (ri_below (ri_drew hvcW.out) q2)
  have b2 := Lib.hid (below_on (show Below w.heap.size w W.drew from hb0.out.drew) q2)
  have x2 := Lib.hid (blk_below (w := W.drew) hbox.out q2)
  clear q2
  go_wp2_with fail
  refine hK.out _ _ (blk_cell x2.out 8 _ rfl) (fun hSn => ?_)
  clear hS
  have hS := hSn
  clear hSn
  clear hK K
  try simp only [Act.put, List.setIfInBounds_toArray, List.set_cons_zero, List.set_cons_succ]
  refine wpAnyH_ready (rs := [3]) (by kernel_rfl) (by simp) (AllReadyH.cons rfl (fun K hK => ?_) AllReadyH.nil)
  go_simp
  go_at_call 54
  refine (hput.out _ v2.out).mono ?_
  rintro e w3 ⟨vp, rfl, rp, q3⟩
  obtain ⟨pp, cp, rfl⟩ := bytes_form rp
  replace rp := Lib.hid rp
  have r3 := Lib.hid (blk_below r2.out q3)
  have b3 := Lib.hid (below_on b2.out q3)
  have x3 := Lib.hid (blk_below x2.out q3)
  clear q3
  go_wp2_with fail
  refine hK.out _ _ (blk_cell x3.out 8 _ rfl) (fun hSn => ?_)
  clear hS
  have hS := hSn
  clear hSn
  clear hK K
  try simp only [Act.put, List.setIfInBounds_toArray, List.set_cons_zero, List.set_cons_succ]
  refine wpAnyH_ready (rs := [4]) (by kernel_rfl) (by simp) (AllReadyH.cons rfl (fun K hK => ?_) AllReadyH.nil)
  go_simp
  go_at_call 62
  refine (hit.out _ _ rp.out).mono ?_
  rintro e w4 ⟨vt, rfl, rt, q4⟩
  obtain ⟨pt, ct, rfl⟩ := ri_form (ri_of_own rt)
  have rt4 := Lib.hid (ownI_mono rt b3.out.size)
  have r4 := blk_below r3.out q4
  have b4 := Lib.hid (below_on b3.out q4)
  have x4 := Lib.hid (blk_below x3.out q4)
  clear q4 rt
  go_wp2_with fail
  refine hK.out _ _ (blk_cell x4.out 8 _ rfl) (fun hSn => ?_)
  clear hS
  have hS := hSn
  clear hSn
  clear hK K
  try simp only [Act.put, List.setIfInBounds_toArray, List.set_cons_zero, List.set_cons_succ]
  obtain ⟨y0, y1, y2, y3, y4, y5, y6, y7, y8⟩ := held9 r4
  have fy0 := blk_thaw r4 0
  have fy1 := blk_thaw r4 1
  have fy2 := blk_thaw r4 2
  have fy3 := blk_thaw r4 3
  have fy4 := blk_thaw r4 4
  have fy5 := blk_thaw r4 5
  have fy6 := blk_thaw r4 6
  have fy7 := blk_thaw r4 7
  have fy8 := blk_thaw r4 8
  replace r4 := Lib.hid r4
  refine wpAnyH_ready (rs := [5]) (by kernel_rfl) (by simp) (AllReadyH.cons rfl (fun K hK => ?_) AllReadyH.nil)
  go_simp
  go_wp2_with fail
  refine hK.out _ _ (by show (set9 w4 (w.heap.size + 1) (.int .i64 4) (.string ⟨#[]⟩) nilV nilV (.bool false) (.int .i64 0) (.bool false) (.bool false) nilV).cell? _ = _; exact (World.cell?_of_block (w := w4) (a := ⟨w.heap.size, 8, none⟩) (set9_block w4 (w.heap.size + 1) _ _ _ _ _ _ _ _ _ _ (by simp))).trans (blk_cell x4.out 8 _ rfl)) (fun hSn => ?_)
  clear hS
  have hS := hSn
  clear hSn
  clear hK K
  try simp only [Act.put, List.setIfInBounds_toArray, List.set_cons_zero, List.set_cons_succ]
  refine' wpAnyH_take (i := 6) (oi := ⟨_, _, _, _, _, _⟩) (v := _) rfl (by kernel_rfl) (by kernel_rfl) (by kernel_rfl) (fun _ _ _ h => h) (Or.inl ⟨by rfl, ?hy6⟩) hS ?rest6
  case hy6 => (intro wz hSw; (try dsimp only at hSw); go_simp; try with_reducible rfl)
  try simp only [Act.put, List.setIfInBounds_toArray, List.set_cons_zero, List.set_cons_succ]
  refine wpAnyH_done (by kernel_rfl) ?_ _
  go_wp2_with fail
  have e4 := r4.out
  have hfin := fed_gen (v := mchV m (.slice pn m.n.length cn) (.slice pg m.g.length cg) (.slice pc m.c.length cc)) (q := (Mch.bare 4, Mch.itemsOf (Frm.putF m.c))) r4.out (Nat.le_succ w.heap.size) ⟨ri_nil15 _, at_nil _ _ _⟩ ⟨ri_nil15 _, at_nil _ _ _⟩ ⟨ri_nil15 _, at_nil _ _ _⟩ ⟨ri_of_own rt4.out, at_own rt4.out e4⟩ b4.out
  unfold set9 strV at hfin
  have r3' := r4.out
  have n9 := blk_set9 r3' (.int .i64 4) (.string ⟨#[]⟩) nilV nilV (.bool false) (.int .i64 0) (.bool false) (.bool false) nilV
  unfold set9 at n9
  obtain ⟨z0, z1, z2, z3, z4, z5, z6, z7, z8⟩ := held9 n9
  refine bodyPost_ret (v := .tuple #[.agg #[(.int .i64 4), (.string ⟨#[]⟩), nilV, nilV, (.bool false), (.int .i64 0), (.bool false), (.bool false), nilV], .slice pt (Mch.itemsOf (Frm.putF m.c)).length ct]) ?_ rfl ?_
  · simp [results, Tryz.results33, go_sem, z0, z1, z2, z3, z4, z5, z6, z7, z8]
  · exact hfin
set_option maxHeartbeats 6400000 in
set_option maxRecDepth 100000 in
theorem frame15_any (v : Value) (m : MS) (x : Int) (w : World) (h4 : m.kind = 4) (hx : x ≠ -1) (hsn : Mch.Sane m) (hsm : Mch.Small m) (hv : RM w v m) : Calls Tryz.prog 33 #[v, .int .i64 x] w (FedM v (Mch.feedK m x) w) := by
  obtain ⟨i0, hi, hz0, hz1, hz2⟩ := info_parts info_i
  have hv0 := hv
  obtain ⟨vn, vg, vc, rfl, hvn, hvg, hvc⟩ := hv
  obtain ⟨pn, cn, rfl⟩ := ri_form hvn
  obtain ⟨pg, cg, rfl⟩ := ri_form hvg
  obtain ⟨pc, cc, rfl⟩ := ri_form hvc
  have hbox0 := blk_new w #[.int .i64 m.kind, .string ⟨m.d.toArray⟩, .slice pn m.n.length cn, .slice pg m.g.length cg, .bool m.s.on, .int .i64 m.s.kind, .bool m.s.pict, .bool m.s.odd, .slice pc m.c.length cc] 41
  have hbox := blk_alloc hbox0 (.cells (bare9 0) 41)
  have hres := blk_new (w.alloc (.cells #[.int .i64 m.kind, .string ⟨m.d.toArray⟩, .slice pn m.n.length cn, .slice pg m.g.length cg, .bool m.s.on, .int .i64 m.s.kind, .bool m.s.pict, .bool m.s.odd, .slice pc m.c.length cc] 41)) (bare9 0) 41
  rw [World.size_alloc] at hres
  have hb0 := (below_new w (.cells #[.int .i64 m.kind, .string ⟨m.d.toArray⟩, .slice pn m.n.length cn, .slice pg m.g.length cg, .bool m.s.on, .int .i64 m.s.kind, .bool m.s.pict, .bool m.s.odd, .slice pc m.c.length cc] 41)).alloc (by simp) (.cells (bare9 0) 41)
  obtain ⟨W, hW⟩ : ∃ W, (w.alloc (.cells #[.int .i64 m.kind, .string ⟨m.d.toArray⟩, .slice pn m.n.length cn, .slice pg m.g.length cg, .bool m.s.on, .int .i64 m.s.kind, .bool m.s.pict, .bool m.s.odd, .slice pc m.c.length cc] 41)).alloc (.cells (bare9 0) 41) = W := ⟨_, rfl⟩
  rw [hW] at hbox hres hb0
  clear hbox0
  replace hW := Lib.hid hW
  have hfk : Mch.feedK m x = ({ Mch.bare 4 with c := if m.c.length = 32 then m.c else m.c ++ [x] }, []) := by
    unfold Mch.feedK
    rw [if_neg (by omega), if_neg (by omega), if_neg (by omega), if_neg (by omega), if_neg hx]
    by_cases h : m.c.length = 32
    · rw [if_pos h, if_pos h, ← only_c15 hsn h4]
    · rw [if_neg h, if_neg h]
  obtain ⟨C, hC⟩ : ∃ C, (if m.c.length = 32 then m.c else m.c ++ [x]) = C := ⟨_, rfl⟩
  rw [hfk, hC]
  clear hfk
  have hvcW := ri_below hvc hb0
  have hc32 := hsn.c
  have hcl := fun W' (h : RI W' (.slice pc m.c.length cc) m.c) => sclone_any _ m.c W' (by omega) h
  have tx : (x == -1) = false := beq_eq_false_iff_ne.2 hx
  unfold Makes at hcl
  unfold mchV strV
  replace hcl := Lib.hid hcl
  replace hbox := Lib.hid hbox
  replace hres := Lib.hid hres
  replace hb0 := Lib.hid hb0
  replace hv0 := Lib.hid hv0
  replace hvn := Lib.hid hvn
  replace hvg := Lib.hid hvg
  replace hvc := Lib.hid hvc
  replace h4 := Lib.hid h4
  replace hsn := Lib.hid hsn
  replace hvcW := Lib.hid hvcW
  replace hx := Lib.hid hx
  replace hC := Lib.hid hC
  go_enter Tryz.func33, Tryz.ntmps33
  go_upto_region 3 with (fail)
  rw [hW.out]
  have hc8 := blk_cell hbox.out 8 _ rfl
  go_wp2_with fail
  refine (hcl.out _ hvcW.out).mono ?_
  rintro e w2 ⟨va, rfl, ha, q2⟩
  have a2 := Lib.hid (ownI_mono ha hb0.out.size)
  have b2 := Lib.hid (below_on hb0.out q2)
  have r2 := Lib.hid (blk_below hres.out q2)
  obtain ⟨pa, ca, rfl⟩ := ri_form (ri_of_own ha)
  clear ha q2 hc8
  by_cases h32 : m.c.length = 32
  · have hC2 := hC.out
    rw [if_pos h32] at hC2
    subst hC2
    clear hC
    have t32 : ¬ ((m.c.length : Int) < 32) := by omega
    have t33 : ¬ (m.c.length < 32) := by omega
    replace h32 := Lib.hid h32
    have r2' := r2.out
    obtain ⟨y0, y1, y2, y3, y4, y5, y6, y7, y8⟩ := held9 r2'
    have fy0 := blk_thaw r2' 0
    have fy1 := blk_thaw r2' 1
    have fy2 := blk_thaw r2' 2
    have fy3 := blk_thaw r2' 3
    have fy4 := blk_thaw r2' 4
    have fy5 := blk_thaw r2' 5
    have fy6 := blk_thaw r2' 6
    have fy7 := blk_thaw r2' 7
    have fy8 := blk_thaw r2' 8
    clear r2'
    go_wp2_with fail
    have e2 := r2.out
    have hfin := fed_gen (v := mchV m (.slice pn m.n.length cn) (.slice pg m.g.length cg) (.slice pc m.c.length cc)) (q := ({ Mch.bare 4 with c := m.c }, [])) r2.out (Nat.le_succ w.heap.size) ⟨ri_nil15 _, at_nil _ _ _⟩ ⟨ri_nil15 _, at_nil _ _ _⟩ ⟨ri_of_own a2.out, at_own a2.out e2⟩ ⟨ri_nil15 _, at_nil _ _ _⟩ b2.out
    unfold set9 strV at hfin
    have r3' := r2.out
    have n9 := blk_set9 r3' (.int .i64 4) (.string ⟨#[]⟩) nilV nilV (.bool false) (.int .i64 0) (.bool false) (.bool false) (.slice pa m.c.length ca)
    unfold set9 at n9
    obtain ⟨z0, z1, z2, z3, z4, z5, z6, z7, z8⟩ := held9 n9
    refine bodyPost_ret (v := .tuple #[.agg #[(.int .i64 4), (.string ⟨#[]⟩), nilV, nilV, (.bool false), (.int .i64 0), (.bool false), (.bool false), (.slice pa m.c.length ca)], .slice none 0 0]) ?_ rfl ?_
    · simp [results, Tryz.results33, go_sem, z0, z1, z2, z3, z4, z5, z6, z7, z8]
    · exact hfin
  · have hC2 := hC.out
    rw [if_neg h32] at hC2
    subst hC2
    clear hC
    have t32 : ((m.c.length : Int) < 32) := by omega
    have t33 : (m.c.length < 32) := by omega
    replace h32 := Lib.hid h32
    obtain ⟨l4, hl4⟩ : ∃ l4, (m.c ++ [x]).length = l4 := ⟨_, rfl⟩
    replace hl4 := Lib.hid hl4
    have a3 := Lib.hid (ownI_alloc a2.out (.cells #[.int .i64 x] 3))
    have s3 := Lib.hid (ri_src (ri_of_own (ownI_lit w2.heap.size w2 [x] #[.int .i64 x] w2.heap.size 1 rfl (Nat.le_refl _) rfl rfl (by unfold maxLen; omega))))
    have b3 := Lib.hid (b2.out.alloc b2.out.size (.cells #[.int .i64 x] 3))
    have r3 := Lib.hid (blk_alloc r2.out (.cells #[.int .i64 x] 3))
    go_wp2_with (at_builtin; refine wpList_append_src rfl _ _ 24 rfl w.heap.size 3 i0 (.int .i64 0) 8 Tryz.underlying24 hi hz0 hz1 hz2 rfl _ _ _ rfl a3.out _ _ rfl s3.out (oneCellI _) (by simp only [List.length_map, List.length_append, List.length_take, List.length_drop, List.length_cons, List.length_nil, List.length_singleton]; unfold maxLen; omega) (by simp only [List.length_map, List.length_append, List.length_take, List.length_drop, List.length_cons, List.length_nil, List.length_singleton]; omega) b3.out.size ?_; intro v4 w4 ho4 hg4; have o4 := Lib.hid (ownI_of_row (l := m.c ++ [x]) ho4 (by (try simp); try omega) (by (try simp); try omega)); have b4 := Lib.hid (below_row b3.out hg4 b3.out.size a3.out (Nat.le_refl _)); have r4 := blk_grown r3.out hg4 (fun e => (own_box9 a3.out r3.out) e.symm); obtain ⟨p4, c4, ee4⟩ := ri_form (ri_of_own o4.out); rw [hl4.out] at ee4; subst ee4; obtain ⟨y0, y1, y2, y3, y4, y5, y6, y7, y8⟩ := held9 r4; have fy0 := blk_thaw r4 0; have fy1 := blk_thaw r4 1; have fy2 := blk_thaw r4 2; have fy3 := blk_thaw r4 3; have fy4 := blk_thaw r4 4; have fy5 := blk_thaw r4 5; have fy6 := blk_thaw r4 6; have fy7 := blk_thaw r4 7; have fy8 := blk_thaw r4 8; replace r4 := Lib.hid r4; clear ho4 hg4)
    have e4 := r4.out
    have hfin := fed_gen (v := mchV m (.slice pn m.n.length cn) (.slice pg m.g.length cg) (.slice pc m.c.length cc)) (q := ({ Mch.bare 4 with c := m.c ++ [x] }, [])) r4.out (Nat.le_succ w.heap.size) ⟨ri_nil15 _, at_nil _ _ _⟩ ⟨ri_nil15 _, at_nil _ _ _⟩ ⟨ri_of_own o4.out, at_own o4.out e4⟩ ⟨ri_nil15 _, at_nil _ _ _⟩ b4.out
    unfold set9 strV at hfin
    have r3' := r4.out
    have n9 := blk_set9 r3' (.int .i64 4) (.string ⟨#[]⟩) nilV nilV (.bool false) (.int .i64 0) (.bool false) (.bool false) (.slice p4 l4 c4)
    unfold set9 at n9
    obtain ⟨z0, z1, z2, z3, z4, z5, z6, z7, z8⟩ := held9 n9
    refine bodyPost_ret (v := .tuple #[.agg #[(.int .i64 4), (.string ⟨#[]⟩), nilV, nilV, (.bool false), (.int .i64 0), (.bool false), (.bool false), (.slice p4 l4 c4)], .slice none 0 0]) ?_ rfl ?_
    · simp [results, Tryz.results33, go_sem, z0, z1, z2, z3, z4, z5, z6, z7, z8]
    · exact hfin
end Go.Proofs.YtiidjkhkcckmkaaGreatDoor

/- Layer 15: the code's Feed, End, Cost. -/
namespace Go.Proofs.YtiidjkhkcckmkaaGreatDoor
set_option linter.unusedSimpArgs false
set_option linter.unusedVariables false
open Go.RowKit Go.Lib
open Mch (MS)
def RB15 (w : World) (v : Value) (M : MS) (k : Nat) (wx : World) : Prop :=
  ∃ vn vg vc, Blk wx k #[.int .i64 M.kind, strV M.d, vn, vg, .bool M.s.on, .int .i64 M.s.kind, .bool M.s.pict, .bool M.s.odd, vc] 41 ∧ RI wx vn M.n ∧ RI wx vg M.g ∧ RI wx vc M.c ∧ (∀ j, OffM j v → OffM j (mchV M vn vg vc)) ∧ Below w.heap.size w wx
theorem rb15_put {w w1 : World} {v : Value} {M : MS} {k : Nat} {z0 z1 z2 z3 z4 z5 z6 z7 z8 : Value} {pn pg pc : Option Addr} {cn cg cc : Nat} (hk : w.heap.size ≤ k) (hx : Blk w1 k #[z0, z1, z2, z3, z4, z5, z6, z7, z8] 41)
    (hr : RM w1 (.agg (cellsM M.kind ⟨M.d.toArray⟩ pn M.n.length cn pg M.g.length cg M.s.on M.s.kind M.s.pict M.s.odd pc M.c.length cc)) M) (ho : ∀ j, OffM j v → OffM j (.agg (cellsM M.kind ⟨M.d.toArray⟩ pn M.n.length cn pg M.g.length cg M.s.on M.s.kind M.s.pict M.s.odd pc M.c.length cc)))
    (hok : OffM k v) (hb : Below w.heap.size w w1) :
    RB15 w v M k (set9 w1 k (.int .i64 M.kind) (.string ⟨M.d.toArray⟩) (.slice pn M.n.length cn) (.slice pg M.g.length cg) (.bool M.s.on) (.int .i64 M.s.kind) (.bool M.s.pict) (.bool M.s.odd) (.slice pc M.c.length cc)) := by
  have hs := same_set9 w1 k (.int .i64 M.kind) (.string ⟨M.d.toArray⟩) (.slice pn M.n.length cn) (.slice pg M.g.length cg) (.bool M.s.on) (.int .i64 M.s.kind) (.bool M.s.pict) (.bool M.s.odd) (.slice pc M.c.length cc)
  have h := rm_but hr hs (fun j e => e ▸ ho k hok)
  obtain ⟨un, ug, uc, he, h1, h2, h3⟩ := h
  unfold mchV strV cellsM at he
  have e1 : un = .slice pn M.n.length cn ∧ ug = .slice pg M.g.length cg ∧ uc = .slice pc M.c.length cc := by
    injection he with he
    simp at he
    exact ⟨he.1.symm, he.2.1.symm, he.2.2.symm⟩
  obtain ⟨rfl, rfl, rfl⟩ := e1
  exact ⟨_, _, _, blk_set9 hx _ _ _ _ _ _ _ _ _, h1, h2, h3, ho, below_set9 hb hk _ _ _ _ _ _ _ _ _⟩
abbrev feeds15 : Array Value := #[.func (.func 29) #[] #[], .func (.func 30) #[] #[], .func (.func 31) #[] #[], .func (.func 32) #[] #[], .func (.func 33) #[] #[]]
theorem method15 {M : MS} (x : Int) (h : Mch.Sane M) (hx : I64 x) : ∃ (kk G : Nat), M.kind = (kk : Int) ∧ kk < 5 ∧ feeds15[kk]? = some (.func (.func G) #[] #[]) ∧ (∀ (xs : Array Value) (W' : World), (callFunc G xs).run Tryz.prog W' = .ok (.enter G xs) W') ∧ ∀ W' va, Tabs W' → RM W' va M → Calls Tryz.prog G #[va, .int .i64 x] W' (FedM va (Mch.feedK M x) W') := by
  have hsm := Mch.small_sane ((Mch.sane_iff M).2 h)
  rcases Mch.kind_cases h with h0 | h0 | h0 | h0 | h0
  · exact ⟨0, _, h0, by omega, rfl, (fun xs W' => by simp [go_sem]), fun W' va hT hr => decode15_any va M x W' hT h0 h hr⟩
  · exact ⟨1, _, h0, by omega, rfl, (fun xs W' => by simp [go_sem]), fun W' va hT hr => norm15_any va M x W' h0 h hsm hr⟩
  · exact ⟨2, _, h0, by omega, rfl, (fun xs W' => by simp [go_sem]), fun W' va hT hr => fold15_any va M x W' h0 h hsm hx hr⟩
  · exact ⟨3, _, h0, by omega, rfl, (fun xs W' => by simp [go_sem]), fun W' va hT hr => segment15_any va M x W' h0 h hsm hr⟩
  · refine ⟨4, _, h0, by omega, rfl, (fun xs W' => by simp [go_sem]), fun W' va hT hr => ?_⟩
    by_cases e : x = -1
    · subst e
      exact cut15_any va M W' h0 h hsm hr
    · exact frame15_any va M x W' h0 e h hsm hr
abbrev ends15 : Array Value := #[.func (.func 40) #[] #[], .func (.func 41) #[] #[], .func (.func 41) #[] #[], .func (.func 42) #[] #[], .func (.func 43) #[] #[]]
theorem ending15 {M : MS} (h : Mch.Sane M) : ∃ (kk G : Nat), M.kind = (kk : Int) ∧ kk < 5 ∧ ends15[kk]? = some (.func (.func G) #[] #[]) ∧ (∀ (xs : Array Value) (W' : World), (callFunc G xs).run Tryz.prog W' = .ok (.enter G xs) W') ∧ ∀ W' va, Tabs W' → RM W' va M → Calls Tryz.prog G #[va] W' (Makes (Mch.endK M) W') := by
  have hsm := Mch.small_sane ((Mch.sane_iff M).2 h)
  rcases Mch.kind_cases h with h0 | h0 | h0 | h0 | h0
  · exact ⟨0, _, h0, by omega, rfl, (fun xs W' => by simp [go_sem]), fun W' va hT hr => endDecode15_any va M W' hT h0 hr⟩
  · exact ⟨1, _, h0, by omega, rfl, (fun xs W' => by simp [go_sem]), fun W' va hT hr => endNorm15_any va M W' (.inl h0) hsm hr⟩
  · exact ⟨2, _, h0, by omega, rfl, (fun xs W' => by simp [go_sem]), fun W' va hT hr => endNorm15_any va M W' (.inr h0) hsm hr⟩
  · exact ⟨3, _, h0, by omega, rfl, (fun xs W' => by simp [go_sem]), fun W' va hT hr => endSegment15_any va M W' h0 h hsm hr⟩
  · exact ⟨4, _, h0, by omega, rfl, (fun xs W' => by simp [go_sem]), fun W' va hT hr => endFramer15_any va M W' h0 hr⟩
set_option maxHeartbeats 12800000 in
set_option maxRecDepth 100000 in
theorem feed15_any (v : Value) (m : MS) (x : Int) (w : World) (hT : Tabs w) (hs : Mch.Small m) (hv : RM w v m) (hx : I64 x) : Calls Tryz.prog 10 #[v, .int .i64 x] w (FedM v (Mch.feedM m x) w) := by
  have hv0 := hv
  unfold Mch.feedM
  obtain ⟨vn, vg, vc, rfl, hvn, hvg, hvc⟩ := hv
  obtain ⟨pn, cn, rfl⟩ := ri_form hvn
  obtain ⟨pg, cg, rfl⟩ := ri_form hvg
  obtain ⟨pc, cc, rfl⟩ := ri_form hvc
  have hbox0 := blk_new w #[.int .i64 m.kind, .string ⟨m.d.toArray⟩, .slice pn m.n.length cn, .slice pg m.g.length cg, .bool m.s.on, .int .i64 m.s.kind, .bool m.s.pict, .bool m.s.odd, .slice pc m.c.length cc] 41
  have hbox := blk_alloc hbox0 (.cells (bare9 0) 41)
  have hres := blk_new (w.alloc (.cells #[.int .i64 m.kind, .string ⟨m.d.toArray⟩, .slice pn m.n.length cn, .slice pg m.g.length cg, .bool m.s.on, .int .i64 m.s.kind, .bool m.s.pict, .bool m.s.odd, .slice pc m.c.length cc] 41)) (bare9 0) 41
  rw [World.size_alloc] at hres
  have hb0 := (below_new w (.cells #[.int .i64 m.kind, .string ⟨m.d.toArray⟩, .slice pn m.n.length cn, .slice pg m.g.length cg, .bool m.s.on, .int .i64 m.s.kind, .bool m.s.pict, .bool m.s.odd, .slice pc m.c.length cc] 41)).alloc (by simp) (.cells (bare9 0) 41)
  obtain ⟨W, hW⟩ : ∃ W, (w.alloc (.cells #[.int .i64 m.kind, .string ⟨m.d.toArray⟩, .slice pn m.n.length cn, .slice pg m.g.length cg, .bool m.s.on, .int .i64 m.s.kind, .bool m.s.pict, .bool m.s.odd, .slice pc m.c.length cc] 41)).alloc (.cells (bare9 0) 41) = W := ⟨_, rfl⟩
  rw [hW] at hbox hres hb0
  clear hbox0
  replace hW := Lib.hid hW
  have hkn := known15_any _ m W (tabs_below15 hT hb0) hs (rm_below hv0 hb0)
  have hsn := (Mch.sane_iff _).1 (Mch.as_sane m)
  have hok := rm_off hv0 (Nat.le_refl w.heap.size)
  have hok1 := rm_off hv0 (Nat.le_succ w.heap.size)
  unfold Known15 at hkn
  obtain ⟨M, hM⟩ : ∃ M, Mch.asM m = M := ⟨_, rfl⟩
  rw [hM] at hkn hsn ⊢
  obtain ⟨q, hq⟩ : ∃ q, Mch.feedK M x = q := ⟨_, rfl⟩
  rw [hq]
  unfold mchV strV at hkn hok hok1 ⊢
  replace hkn := Lib.hid hkn
  replace hsn := Lib.hid hsn
  replace hok := Lib.hid hok
  replace hok1 := Lib.hid hok1
  replace hbox := Lib.hid hbox
  replace hb0 := Lib.hid hb0
  replace hv0 := Lib.hid hv0
  replace hvn := Lib.hid hvn
  replace hvg := Lib.hid hvg
  replace hvc := Lib.hid hvc
  replace hM := Lib.hid hM
  replace hT := Lib.hid hT
  replace hres := Lib.hid hres
  replace hx := Lib.hid hx
  replace hq := Lib.hid hq
  clear hs
  go_enter Tryz.func10, Tryz.ntmps10
  go_upto_region 1 with (fail)
  rw [hW.out]
  obtain ⟨k0, k1, k2, k3, k4, k5, k6, k7, k8⟩ := held9 hbox.out
  go_cut [] (fun wx => RB15 w (.agg #[.int .i64 m.kind, .string ⟨m.d.toArray⟩, .slice pn m.n.length cn, .slice pg m.g.length cg, .bool m.s.on, .int .i64 m.s.kind, .bool m.s.pict, .bool m.s.odd, .slice pc m.c.length cc]) M w.heap.size wx ∧ Blk wx (w.heap.size + 1) (bare9 0) 41)
  case first =>
    go_wp2_with fail
    refine hkn.out.mono ?_
    rintro e w1 ⟨va, rfl, ra, oa, q1⟩
    obtain ⟨qn, dn, qg, dg, qc, dc, rfl⟩ := rm_form ra
    have x1 := blk_below hbox.out q1
    have b1 := below_on hb0.out q1
    have hrb := Lib.hid (rb15_put (Nat.le_refl w.heap.size) x1 ra oa hok.out b1)
    have r1 := Lib.hid (blk_but9 (blk_below hres.out q1) (show w.heap.size + 1 ≠ w.heap.size by omega) (.int .i64 M.kind) (.string ⟨M.d.toArray⟩) (.slice qn M.n.length dn) (.slice qg M.g.length dg) (.bool M.s.on) (.int .i64 M.s.kind) (.bool M.s.pict) (.bool M.s.odd) (.slice qc M.c.length dc))
    unfold cellsM
    obtain ⟨y0, y1, y2, y3, y4, y5, y6, y7, y8⟩ := held9 x1
    have fy0 := blk_thaw x1 0
    have fy1 := blk_thaw x1 1
    have fy2 := blk_thaw x1 2
    have fy3 := blk_thaw x1 3
    have fy4 := blk_thaw x1 4
    have fy5 := blk_thaw x1 5
    have fy6 := blk_thaw x1 6
    have fy7 := blk_thaw x1 7
    have fy8 := blk_thaw x1 8
    clear x1 b1 ra oa q1 k0 k1 k2 k3 k4 k5 k6 k7 k8
    go_wp2_with fail
    go_meet
    have hA := hrb.out
    unfold set9 at hA
    have hB := r1.out
    unfold set9 at hB
    exact ⟨hA, hB⟩
  case rest =>
    obtain ⟨⟨un, ug, uc, hbx, rn, rg, rc, hoff, hbw⟩, hrs⟩ := hcut
    obtain ⟨qn, dn, rfl⟩ := ri_form rn
    obtain ⟨qg, dg, rfl⟩ := ri_form rg
    obtain ⟨qc, dc, rfl⟩ := ri_form rc
    have hTc := Lib.hid (tabs_below15 hT.out hbw)
    clear k0 k1 k2 k3 k4 k5 k6 k7 k8
    obtain ⟨kk, G, hkk, hk5, hG, hent, hmeth⟩ := method15 x hsn.out hx.out
    rw [hq.out] at hmeth
    have hrm : RowKit.Hid (RM wc (mchV M (.slice qn M.n.length dn) (.slice qg M.g.length dg) (.slice qc M.c.length dc)) M) := ⟨_, _, _, rfl, rn, rg, rc⟩
    unfold mchV strV at hrm
    unfold strV at hbx
    rw [hkk] at hbx hrm
    have x4 := blk_alloc hbx (.cells feeds15 43)
    have r4 := Lib.hid (blk_alloc hrs (.cells feeds15 43))
    have f4 := blk_new wc feeds15 43
    have b4 := Lib.hid (hbw.alloc hbw.size (.cells feeds15 43))
    have rm4 := Lib.hid (rm_below hrm.out (below_new wc (.cells feeds15 43)))
    have T4 := Lib.hid (tabs_below15 hTc.out (below_new wc (.cells feeds15 43)))
    have hlt4 := Lib.hid (show wc.heap.size ≠ w.heap.size + 1 by have := blk_lt hrs; omega)
    have hsz := Lib.hid (show w.heap.size ≤ wc.heap.size from hbw.size)
    have hrl := Lib.hid (blk_lt hrs)
    have hkI : (kk : Int) < 5 := by omega
    have hk0 : ¬ ((kk : Int) < 0) := by omega
    replace hkk := Lib.hid hkk
    replace hG := Lib.hid hG
    replace hmeth := Lib.hid hmeth
    replace hoff := Lib.hid hoff
    replace hbw := Lib.hid hbw
    replace hbx := Lib.hid hbx
    replace hrs := Lib.hid hrs
    replace rn := Lib.hid rn
    replace rg := Lib.hid rg
    replace rc := Lib.hid rc
    replace hsn := Lib.hid hsn
    go_upto_region 3 with (fail)
    obtain ⟨w4, hw4⟩ : ∃ w4, wc.alloc (.cells feeds15 43) = w4 := ⟨_, rfl⟩
    rw [hw4] at x4 r4 f4 b4 rm4 T4
    unfold feeds15 at hw4
    rw [hw4]
    replace hw4 := Lib.hid hw4
    replace x4 := Lib.hid x4
    replace f4 := Lib.hid f4
    refine wp_region_held_drew (S := fun w' => w'.cell? ⟨w.heap.size, 0, none⟩ = some (.int .i64 kk) ∧ w'.cell? ⟨w.heap.size, 1, none⟩ = some (.string ⟨M.d.toArray⟩) ∧ w'.cell? ⟨w.heap.size, 2, none⟩ = some (.slice qn M.n.length dn) ∧ w'.cell? ⟨w.heap.size, 3, none⟩ = some (.slice qg M.g.length dg) ∧ w'.cell? ⟨w.heap.size, 4, none⟩ = some (.bool M.s.on) ∧ w'.cell? ⟨w.heap.size, 5, none⟩ = some (.int .i64 M.s.kind) ∧ w'.cell? ⟨w.heap.size, 6, none⟩ = some (.bool M.s.pict) ∧ w'.cell? ⟨w.heap.size, 7, none⟩ = some (.bool M.s.odd) ∧ w'.cell? ⟨w.heap.size, 8, none⟩ = some (.slice qc M.c.length dc) ∧ w'.cell? ⟨wc.heap.size, kk, none⟩ = some (.func (.func G) #[] #[])) (by kernel_rfl) (⟨blk_cell x4.out 0 _ rfl, blk_cell x4.out 1 _ rfl, blk_cell x4.out 2 _ rfl, blk_cell x4.out 3 _ rfl, blk_cell x4.out 4 _ rfl, blk_cell x4.out 5 _ rfl, blk_cell x4.out 6 _ rfl, blk_cell x4.out 7 _ rfl, blk_cell x4.out 8 _ rfl, blk_cell f4.out kk _ hG.out⟩) (fun hS => ?_)
    refine' wpAnyH_take (i := 0) (oi := ⟨_, _, _, _, _, _⟩) (v := _) rfl (by kernel_rfl) (by kernel_rfl) (by kernel_rfl) (fun _ _ _ h => h) (Or.inl ⟨by rfl, ?hy0⟩) hS ?rest0
    case hy0 => (intro wz hSw; (try dsimp only at hSw); go_simp; try with_reducible rfl)
    try simp only [Act.put, List.setIfInBounds_toArray, List.set_cons_zero, List.set_cons_succ]
    refine' wpAnyH_take (i := 1) (oi := ⟨_, _, _, _, _, _⟩) (v := _) rfl (by kernel_rfl) (by kernel_rfl) (by kernel_rfl) (fun _ _ _ h => h) (Or.inl ⟨by rfl, ?hy1⟩) hS ?rest1
    case hy1 => (intro wz hSw; (try dsimp only at hSw); go_simp; try with_reducible rfl)
    try simp only [Act.put, List.setIfInBounds_toArray, List.set_cons_zero, List.set_cons_succ]
    refine' wpAnyH_take (i := 2) (oi := ⟨_, _, _, _, _, _⟩) (v := _) rfl (by kernel_rfl) (by kernel_rfl) (by kernel_rfl) (fun _ _ _ h => h) (Or.inl ⟨by rfl, ?hy2⟩) hS ?rest2
    case hy2 => (intro wz hSw; (try dsimp only at hSw); go_simp; try with_reducible rfl)
    try simp only [Act.put, List.setIfInBounds_toArray, List.set_cons_zero, List.set_cons_succ]
    refine' wpAnyH_take (i := 3) (oi := ⟨_, _, _, _, _, _⟩) (v := _) rfl (by kernel_rfl) (by kernel_rfl) (by kernel_rfl) (fun _ _ _ h => h) (Or.inl ⟨by rfl, ?hy3⟩) hS ?rest3
    case hy3 => (intro wz hSw; (try dsimp only at hSw); go_simp; try with_reducible rfl)
    try simp only [Act.put, List.setIfInBounds_toArray, List.set_cons_zero, List.set_cons_succ]
    refine' wpAnyH_take (i := 4) (oi := ⟨_, _, _, _, _, _⟩) (v := _) rfl (by kernel_rfl) (by kernel_rfl) (by kernel_rfl) (fun _ _ _ h => h) (Or.inl ⟨by rfl, ?hy4⟩) hS ?rest4
    case hy4 => (intro wz hSw; (try dsimp only at hSw); go_simp; try with_reducible rfl)
    try simp only [Act.put, List.setIfInBounds_toArray, List.set_cons_zero, List.set_cons_succ]
    refine' wpAnyH_take (i := 5) (oi := ⟨_, _, _, _, _, _⟩) (v := _) rfl (by kernel_rfl) (by kernel_rfl) (by kernel_rfl) (fun _ _ _ h => h) (Or.inl ⟨by rfl, ?hy5⟩) hS ?rest5
    case hy5 => (intro wz hSw; (try dsimp only at hSw); go_simp; try with_reducible rfl)
    try simp only [Act.put, List.setIfInBounds_toArray, List.set_cons_zero, List.set_cons_succ]
    refine' wpAnyH_take (i := 6) (oi := ⟨_, _, _, _, _, _⟩) (v := _) rfl (by kernel_rfl) (by kernel_rfl) (by kernel_rfl) (fun _ _ _ h => h) (Or.inl ⟨by rfl, ?hy6⟩) hS ?rest6
    case hy6 => (intro wz hSw; (try dsimp only at hSw); go_simp; try with_reducible rfl)
    try simp only [Act.put, List.setIfInBounds_toArray, List.set_cons_zero, List.set_cons_succ]
    refine wpAnyH_ready (rs := [7]) (by kernel_rfl) (by simp) (AllReadyH.cons rfl (fun K hK => ?_) AllReadyH.nil)
    go_simp
    refine (hmeth.out _ _ (tabs_drew15 T4.out) (rm_drew rm4.out)).mono ?_
    rintro e w5 ⟨vt, vb, rfl, ra, rb, ho, q5⟩
    obtain ⟨pn', cn', pg', cg', pc', cc', rfl⟩ := rm_form ra
    obtain ⟨pb, cb, rfl⟩ := ri_form rb
    unfold cellsM at ra ho ⊢
    have r5 := blk_below (w := w4.drew) r4.out q5
    have b5 := Lib.hid (below_on (show Below w.heap.size w w4.drew from b4.out.drew) q5)
    have x5 := Lib.hid (blk_below (w := w4.drew) x4.out q5)
    have f5 := Lib.hid (blk_below (w := w4.drew) f4.out q5)
    replace ra := Lib.hid ra
    replace rb := Lib.hid rb
    replace ho := Lib.hid ho
    clear q5
    go_wp2_with fail
    refine hK.out _ _ (⟨blk_cell x5.out 0 _ rfl, blk_cell x5.out 1 _ rfl, blk_cell x5.out 2 _ rfl, blk_cell x5.out 3 _ rfl, blk_cell x5.out 4 _ rfl, blk_cell x5.out 5 _ rfl, blk_cell x5.out 6 _ rfl, blk_cell x5.out 7 _ rfl, blk_cell x5.out 8 _ rfl, blk_cell f5.out kk _ hG.out⟩) (fun hSn => ?_)
    clear hS
    have hS := hSn
    clear hSn
    clear hK K
    try simp only [Act.put, List.setIfInBounds_toArray, List.set_cons_zero, List.set_cons_succ]
    refine' wpAnyH_take (i := 8) (oi := ⟨_, _, _, _, _, _⟩) (v := _) rfl (by kernel_rfl) (by kernel_rfl) (by kernel_rfl) (fun _ _ _ h => h) (Or.inl ⟨by rfl, ?hy8⟩) hS ?rest8
    case hy8 => (intro wz hSw; (try dsimp only at hSw); go_simp; try with_reducible rfl)
    try simp only [Act.put, List.setIfInBounds_toArray, List.set_cons_zero, List.set_cons_succ]
    refine' wpAnyH_take (i := 9) (oi := ⟨_, _, _, _, _, _⟩) (v := _) rfl (by kernel_rfl) (by kernel_rfl) (by kernel_rfl) (fun _ _ _ h => h) (Or.inl ⟨by rfl, ?hy9⟩) hS ?rest9
    case hy9 => (intro wz hSw; (try dsimp only at hSw); go_simp; try with_reducible rfl)
    try simp only [Act.put, List.setIfInBounds_toArray, List.set_cons_zero, List.set_cons_succ]
    obtain ⟨y0, y1, y2, y3, y4, y5, y6, y7, y8⟩ := held9 r5
    have fy0 := blk_thaw r5 0
    have fy1 := blk_thaw r5 1
    have fy2 := blk_thaw r5 2
    have fy3 := blk_thaw r5 3
    have fy4 := blk_thaw r5 4
    have fy5 := blk_thaw r5 5
    have fy6 := blk_thaw r5 6
    have fy7 := blk_thaw r5 7
    have fy8 := blk_thaw r5 8
    replace r5 := Lib.hid r5
    have x6 := blk_but9 x5.out (show w.heap.size ≠ w.heap.size + 1 by omega) (.int .i64 q.1.kind) (.string ⟨q.1.d.toArray⟩) (.slice pn' q.1.n.length cn') (.slice pg' q.1.g.length cg') (.bool q.1.s.on) (.int .i64 q.1.s.kind) (.bool q.1.s.pict) (.bool q.1.s.odd) (.slice pc' q.1.c.length cc')
    have f6 := blk_but9 f5.out hlt4.out (.int .i64 q.1.kind) (.string ⟨q.1.d.toArray⟩) (.slice pn' q.1.n.length cn') (.slice pg' q.1.g.length cg') (.bool q.1.s.on) (.int .i64 q.1.s.kind) (.bool q.1.s.pict) (.bool q.1.s.odd) (.slice pc' q.1.c.length cc')
    unfold set9 at x6 f6
    replace x6 := Lib.hid x6
    replace f6 := Lib.hid f6
    refine wpAnyH_ready (rs := [10]) (by kernel_rfl) (by simp) (AllReadyH.cons rfl (fun K hK => ?_) AllReadyH.nil)
    go_simp
    go_wp2_with fail
    refine hK.out _ _ (⟨blk_cell x6.out 0 _ rfl, blk_cell x6.out 1 _ rfl, blk_cell x6.out 2 _ rfl, blk_cell x6.out 3 _ rfl, blk_cell x6.out 4 _ rfl, blk_cell x6.out 5 _ rfl, blk_cell x6.out 6 _ rfl, blk_cell x6.out 7 _ rfl, blk_cell x6.out 8 _ rfl, blk_cell f6.out kk _ hG.out⟩) (fun hSn => ?_)
    clear hS
    have hS := hSn
    clear hSn
    clear hK K
    try simp only [Act.put, List.setIfInBounds_toArray, List.set_cons_zero, List.set_cons_succ]
    refine' wpAnyH_take (i := 11) (oi := ⟨_, _, _, _, _, _⟩) (v := _) rfl (by kernel_rfl) (by kernel_rfl) (by kernel_rfl) (fun _ _ _ h => h) (Or.inl ⟨by rfl, ?hy11⟩) hS ?rest11
    case hy11 => (intro wz hSw; (try dsimp only at hSw); go_simp; try with_reducible rfl)
    try simp only [Act.put, List.setIfInBounds_toArray, List.set_cons_zero, List.set_cons_succ]
    refine wpAnyH_done (by kernel_rfl) ?_ _
    go_wp2_with fail
    have hs9 := same_set9 w5 (w.heap.size + 1) (.int .i64 q.1.kind) (.string ⟨q.1.d.toArray⟩) (.slice pn' q.1.n.length cn') (.slice pg' q.1.g.length cg') (.bool q.1.s.on) (.int .i64 q.1.s.kind) (.bool q.1.s.pict) (.bool q.1.s.odd) (.slice pc' q.1.c.length cc')
    have hb9 := below_set9 b5.out (Nat.le_succ w.heap.size) (.int .i64 q.1.kind) (.string ⟨q.1.d.toArray⟩) (.slice pn' q.1.n.length cn') (.slice pg' q.1.g.length cg') (.bool q.1.s.on) (.int .i64 q.1.s.kind) (.bool q.1.s.pict) (.bool q.1.s.odd) (.slice pc' q.1.c.length cc')
    have hle : ∀ j, j < wc.heap.size → j < w4.drew.heap.size := fun j hj => by
      have : w4.drew.heap.size = w4.heap.size := rfl
      rw [this, ← hw4.out]
      simp
      omega
    have hoff2 := fun j h => hoff.out j h
    unfold mchV strV at hoff2
    rw [hkk.out] at hoff2
    have ho1 := ho.out (w.heap.size + 1) (hle _ hrl.out) (hoff2 _ hok1.out)
    have hfin : FedM _ q w _ _ := ⟨_, _, rfl, rm_but ra.out hs9 (fun j e => e ▸ ho1.1), ri_but rb.out hs9 (fun j e => e ▸ ho1.2), fun j hj hvj => ho.out j (hle _ (Nat.lt_of_lt_of_le hj hsz.out)) (hoff2 j hvj), hb9⟩
    unfold set9 at hfin
    have r5' := r5.out
    have n9 := blk_set9 r5' (.int .i64 q.1.kind) (.string ⟨q.1.d.toArray⟩) (.slice pn' q.1.n.length cn') (.slice pg' q.1.g.length cg') (.bool q.1.s.on) (.int .i64 q.1.s.kind) (.bool q.1.s.pict) (.bool q.1.s.odd) (.slice pc' q.1.c.length cc')
    unfold set9 at n9
    obtain ⟨z0, z1, z2, z3, z4, z5, z6, z7, z8⟩ := held9 n9
    refine bodyPost_ret (v := .tuple #[.agg #[.int .i64 q.1.kind, .string ⟨q.1.d.toArray⟩, .slice pn' q.1.n.length cn', .slice pg' q.1.g.length cg', .bool q.1.s.on, .int .i64 q.1.s.kind, .bool q.1.s.pict, .bool q.1.s.odd, .slice pc' q.1.c.length cc'], .slice pb q.2.length cb]) ?_ rfl ?_
    · simp [results, Tryz.results10, go_sem, z0, z1, z2, z3, z4, z5, z6, z7, z8]
    · exact hfin
theorem feedC15 : FeedC15 := fun v m x w hT hs hv hx => feed15_any v m x w hT hs hv hx
set_option maxHeartbeats 12800000 in
set_option maxRecDepth 100000 in
theorem end15_any (v : Value) (m : MS) (w : World) (hT : Tabs w) (hs : Mch.Small m) (hv : RM w v m) : Calls Tryz.prog 13 #[v] w (FedM v (Mch.endM m) w) := by
  have hv0 := hv
  unfold Mch.endM
  obtain ⟨vn, vg, vc, rfl, hvn, hvg, hvc⟩ := hv
  obtain ⟨pn, cn, rfl⟩ := ri_form hvn
  obtain ⟨pg, cg, rfl⟩ := ri_form hvg
  obtain ⟨pc, cc, rfl⟩ := ri_form hvc
  have hbox0 := blk_new w #[.int .i64 m.kind, .string ⟨m.d.toArray⟩, .slice pn m.n.length cn, .slice pg m.g.length cg, .bool m.s.on, .int .i64 m.s.kind, .bool m.s.pict, .bool m.s.odd, .slice pc m.c.length cc] 41
  have hbox := blk_alloc hbox0 (.cells (bare9 0) 41)
  have hres := blk_new (w.alloc (.cells #[.int .i64 m.kind, .string ⟨m.d.toArray⟩, .slice pn m.n.length cn, .slice pg m.g.length cg, .bool m.s.on, .int .i64 m.s.kind, .bool m.s.pict, .bool m.s.odd, .slice pc m.c.length cc] 41)) (bare9 0) 41
  rw [World.size_alloc] at hres
  have hb0 := (below_new w (.cells #[.int .i64 m.kind, .string ⟨m.d.toArray⟩, .slice pn m.n.length cn, .slice pg m.g.length cg, .bool m.s.on, .int .i64 m.s.kind, .bool m.s.pict, .bool m.s.odd, .slice pc m.c.length cc] 41)).alloc (by simp) (.cells (bare9 0) 41)
  obtain ⟨W, hW⟩ : ∃ W, (w.alloc (.cells #[.int .i64 m.kind, .string ⟨m.d.toArray⟩, .slice pn m.n.length cn, .slice pg m.g.length cg, .bool m.s.on, .int .i64 m.s.kind, .bool m.s.pict, .bool m.s.odd, .slice pc m.c.length cc] 41)).alloc (.cells (bare9 0) 41) = W := ⟨_, rfl⟩
  rw [hW] at hbox hres hb0
  clear hbox0
  replace hW := Lib.hid hW
  have hkn := known15_any _ m W (tabs_below15 hT hb0) hs (rm_below hv0 hb0)
  have hsn := (Mch.sane_iff _).1 (Mch.as_sane m)
  have hok := rm_off hv0 (Nat.le_refl w.heap.size)
  have hok1 := rm_off hv0 (Nat.le_succ w.heap.size)
  unfold Known15 at hkn
  obtain ⟨M, hM⟩ : ∃ M, Mch.asM m = M := ⟨_, rfl⟩
  rw [hM] at hkn hsn ⊢
  obtain ⟨q, hq⟩ : ∃ q, (Mch.newM M.kind, Mch.endK M) = q := ⟨_, rfl⟩
  rw [hq]
  unfold mchV strV at hkn hok hok1 ⊢
  replace hkn := Lib.hid hkn
  replace hsn := Lib.hid hsn
  replace hok := Lib.hid hok
  replace hok1 := Lib.hid hok1
  replace hbox := Lib.hid hbox
  replace hb0 := Lib.hid hb0
  replace hv0 := Lib.hid hv0
  replace hvn := Lib.hid hvn
  replace hvg := Lib.hid hvg
  replace hvc := Lib.hid hvc
  replace hM := Lib.hid hM
  replace hT := Lib.hid hT
  replace hres := Lib.hid hres
  replace hq := Lib.hid hq
  clear hs
  go_enter Tryz.func13, Tryz.ntmps13
  go_upto_region 1 with (fail)
  rw [hW.out]
  obtain ⟨k0, k1, k2, k3, k4, k5, k6, k7, k8⟩ := held9 hbox.out
  go_cut [] (fun wx => RB15 w (.agg #[.int .i64 m.kind, .string ⟨m.d.toArray⟩, .slice pn m.n.length cn, .slice pg m.g.length cg, .bool m.s.on, .int .i64 m.s.kind, .bool m.s.pict, .bool m.s.odd, .slice pc m.c.length cc]) M w.heap.size wx ∧ Blk wx (w.heap.size + 1) (bare9 0) 41)
  case first =>
    go_wp2_with fail
    refine hkn.out.mono ?_
    rintro e w1 ⟨va, rfl, ra, oa, q1⟩
    obtain ⟨qn, dn, qg, dg, qc, dc, rfl⟩ := rm_form ra
    have x1 := blk_below hbox.out q1
    have b1 := below_on hb0.out q1
    have hrb := Lib.hid (rb15_put (Nat.le_refl w.heap.size) x1 ra oa hok.out b1)
    have r1 := Lib.hid (blk_but9 (blk_below hres.out q1) (show w.heap.size + 1 ≠ w.heap.size by omega) (.int .i64 M.kind) (.string ⟨M.d.toArray⟩) (.slice qn M.n.length dn) (.slice qg M.g.length dg) (.bool M.s.on) (.int .i64 M.s.kind) (.bool M.s.pict) (.bool M.s.odd) (.slice qc M.c.length dc))
    unfold cellsM
    obtain ⟨y0, y1, y2, y3, y4, y5, y6, y7, y8⟩ := held9 x1
    have fy0 := blk_thaw x1 0
    have fy1 := blk_thaw x1 1
    have fy2 := blk_thaw x1 2
    have fy3 := blk_thaw x1 3
    have fy4 := blk_thaw x1 4
    have fy5 := blk_thaw x1 5
    have fy6 := blk_thaw x1 6
    have fy7 := blk_thaw x1 7
    have fy8 := blk_thaw x1 8
    clear x1 b1 ra oa q1 k0 k1 k2 k3 k4 k5 k6 k7 k8
    go_wp2_with fail
    go_meet
    have hA := hrb.out
    unfold set9 at hA
    have hB := r1.out
    unfold set9 at hB
    exact ⟨hA, hB⟩
  case rest =>
    obtain ⟨⟨un, ug, uc, hbx, rn, rg, rc, hoff, hbw⟩, hrs⟩ := hcut
    obtain ⟨qn, dn, rfl⟩ := ri_form rn
    obtain ⟨qg, dg, rfl⟩ := ri_form rg
    obtain ⟨qc, dc, rfl⟩ := ri_form rc
    have hTc := Lib.hid (tabs_below15 hT.out hbw)
    clear k0 k1 k2 k3 k4 k5 k6 k7 k8
    obtain ⟨kk, G, hkk, hk5, hG, hent, hmeth⟩ := ending15 hsn.out
    obtain ⟨L, hL⟩ : ∃ L, Mch.endK M = L := ⟨_, rfl⟩
    rw [hL] at hmeth
    have hnk : Mch.newM M.kind = Mch.bare kk := by
      unfold Mch.newM
      rw [hkk, if_pos (by omega)]
    have hq2 := hq.out
    rw [hnk, hL] at hq2
    subst hq2
    clear hq
    have hnew := fun W' => new15_any (kk : Int) W'
    rw [if_pos (by omega)] at hnew
    have hrm : RowKit.Hid (RM wc (mchV M (.slice qn M.n.length dn) (.slice qg M.g.length dg) (.slice qc M.c.length dc)) M) := ⟨_, _, _, rfl, rn, rg, rc⟩
    unfold mchV strV at hrm
    unfold strV at hbx
    rw [hkk] at hbx hrm
    have x4 := blk_alloc hbx (.cells ends15 76)
    have r4 := Lib.hid (blk_alloc hrs (.cells ends15 76))
    have f4 := blk_new wc ends15 76
    have b4 := Lib.hid (hbw.alloc hbw.size (.cells ends15 76))
    have rm4 := Lib.hid (rm_below hrm.out (below_new wc (.cells ends15 76)))
    have T4 := Lib.hid (tabs_below15 hTc.out (below_new wc (.cells ends15 76)))
    have hlt4 := Lib.hid (show wc.heap.size ≠ w.heap.size + 1 by have := blk_lt hrs; omega)
    have hkI : (kk : Int) < 5 := by omega
    have hk0 : ¬ ((kk : Int) < 0) := by omega
    unfold Makes at hmeth
    replace hkk := Lib.hid hkk
    replace hG := Lib.hid hG
    replace hmeth := Lib.hid hmeth
    replace hL := Lib.hid hL
    replace hoff := Lib.hid hoff
    replace hbw := Lib.hid hbw
    replace hbx := Lib.hid hbx
    replace hrs := Lib.hid hrs
    replace rn := Lib.hid rn
    replace rg := Lib.hid rg
    replace rc := Lib.hid rc
    replace hsn := Lib.hid hsn
    replace hnew := Lib.hid hnew
    replace hnk := Lib.hid hnk
    go_upto_region 3 with (fail)
    obtain ⟨w4, hw4⟩ : ∃ w4, wc.alloc (.cells ends15 76) = w4 := ⟨_, rfl⟩
    rw [hw4] at x4 r4 f4 b4 rm4 T4
    unfold ends15 at hw4
    rw [hw4]
    replace hw4 := Lib.hid hw4
    replace x4 := Lib.hid x4
    replace f4 := Lib.hid f4
    refine wp_region_held_drew (S := fun w' => w'.cell? ⟨w.heap.size, 0, none⟩ = some (.int .i64 kk) ∧ w'.cell? ⟨w.heap.size, 1, none⟩ = some (.string ⟨M.d.toArray⟩) ∧ w'.cell? ⟨w.heap.size, 2, none⟩ = some (.slice qn M.n.length dn) ∧ w'.cell? ⟨w.heap.size, 3, none⟩ = some (.slice qg M.g.length dg) ∧ w'.cell? ⟨w.heap.size, 4, none⟩ = some (.bool M.s.on) ∧ w'.cell? ⟨w.heap.size, 5, none⟩ = some (.int .i64 M.s.kind) ∧ w'.cell? ⟨w.heap.size, 6, none⟩ = some (.bool M.s.pict) ∧ w'.cell? ⟨w.heap.size, 7, none⟩ = some (.bool M.s.odd) ∧ w'.cell? ⟨w.heap.size, 8, none⟩ = some (.slice qc M.c.length dc) ∧ w'.cell? ⟨wc.heap.size, kk, none⟩ = some (.func (.func G) #[] #[])) (by kernel_rfl) (⟨blk_cell x4.out 0 _ rfl, blk_cell x4.out 1 _ rfl, blk_cell x4.out 2 _ rfl, blk_cell x4.out 3 _ rfl, blk_cell x4.out 4 _ rfl, blk_cell x4.out 5 _ rfl, blk_cell x4.out 6 _ rfl, blk_cell x4.out 7 _ rfl, blk_cell x4.out 8 _ rfl, blk_cell f4.out kk _ hG.out⟩) (fun hS => ?_)
    refine' wpAnyH_take (i := 0) (oi := ⟨_, _, _, _, _, _⟩) (v := _) rfl (by kernel_rfl) (by kernel_rfl) (by kernel_rfl) (fun _ _ _ h => h) (Or.inl ⟨by rfl, ?hy0⟩) hS ?rest0
    case hy0 => (intro wz hSw; (try dsimp only at hSw); go_simp; try with_reducible rfl)
    try simp only [Act.put, List.setIfInBounds_toArray, List.set_cons_zero, List.set_cons_succ]
    refine' wpAnyH_take (i := 1) (oi := ⟨_, _, _, _, _, _⟩) (v := _) rfl (by kernel_rfl) (by kernel_rfl) (by kernel_rfl) (fun _ _ _ h => h) (Or.inl ⟨by rfl, ?hy1⟩) hS ?rest1
    case hy1 => (intro wz hSw; (try dsimp only at hSw); go_simp; try with_reducible rfl)
    try simp only [Act.put, List.setIfInBounds_toArray, List.set_cons_zero, List.set_cons_succ]
    refine' wpAnyH_take (i := 3) (oi := ⟨_, _, _, _, _, _⟩) (v := _) rfl (by kernel_rfl) (by kernel_rfl) (by kernel_rfl) (fun _ _ _ h => h) (Or.inl ⟨by rfl, ?hy3⟩) hS ?rest3
    case hy3 => (intro wz hSw; (try dsimp only at hSw); go_simp; try with_reducible rfl)
    try simp only [Act.put, List.setIfInBounds_toArray, List.set_cons_zero, List.set_cons_succ]
    refine' wpAnyH_take (i := 4) (oi := ⟨_, _, _, _, _, _⟩) (v := _) rfl (by kernel_rfl) (by kernel_rfl) (by kernel_rfl) (fun _ _ _ h => h) (Or.inl ⟨by rfl, ?hy4⟩) hS ?rest4
    case hy4 => (intro wz hSw; (try dsimp only at hSw); go_simp; try with_reducible rfl)
    try simp only [Act.put, List.setIfInBounds_toArray, List.set_cons_zero, List.set_cons_succ]
    refine' wpAnyH_take (i := 5) (oi := ⟨_, _, _, _, _, _⟩) (v := _) rfl (by kernel_rfl) (by kernel_rfl) (by kernel_rfl) (fun _ _ _ h => h) (Or.inl ⟨by rfl, ?hy5⟩) hS ?rest5
    case hy5 => (intro wz hSw; (try dsimp only at hSw); go_simp; try with_reducible rfl)
    try simp only [Act.put, List.setIfInBounds_toArray, List.set_cons_zero, List.set_cons_succ]
    refine' wpAnyH_take (i := 6) (oi := ⟨_, _, _, _, _, _⟩) (v := _) rfl (by kernel_rfl) (by kernel_rfl) (by kernel_rfl) (fun _ _ _ h => h) (Or.inl ⟨by rfl, ?hy6⟩) hS ?rest6
    case hy6 => (intro wz hSw; (try dsimp only at hSw); go_simp; try with_reducible rfl)
    try simp only [Act.put, List.setIfInBounds_toArray, List.set_cons_zero, List.set_cons_succ]
    refine' wpAnyH_take (i := 7) (oi := ⟨_, _, _, _, _, _⟩) (v := _) rfl (by kernel_rfl) (by kernel_rfl) (by kernel_rfl) (fun _ _ _ h => h) (Or.inl ⟨by rfl, ?hy7⟩) hS ?rest7
    case hy7 => (intro wz hSw; (try dsimp only at hSw); go_simp; try with_reducible rfl)
    try simp only [Act.put, List.setIfInBounds_toArray, List.set_cons_zero, List.set_cons_succ]
    refine' wpAnyH_take (i := 8) (oi := ⟨_, _, _, _, _, _⟩) (v := _) rfl (by kernel_rfl) (by kernel_rfl) (by kernel_rfl) (fun _ _ _ h => h) (Or.inl ⟨by rfl, ?hy8⟩) hS ?rest8
    case hy8 => (intro wz hSw; (try dsimp only at hSw); go_simp; try with_reducible rfl)
    try simp only [Act.put, List.setIfInBounds_toArray, List.set_cons_zero, List.set_cons_succ]
    refine wpAnyH_ready (rs := [2]) (by kernel_rfl) (by simp) (AllReadyH.cons rfl (fun K hK => ?_) AllReadyH.nil)
    go_simp
    go_at_call 18
    refine (hnew.out _).mono ?_
    rintro e w5 ⟨rfl, q5⟩
    have r5 := Lib.hid (blk_below (w := w4.drew) r4.out q5)
    have b5 := Lib.hid (below_on (show Below w.heap.size w w4.drew from b4.out.drew) q5)
    have x5 := Lib.hid (blk_below (w := w4.drew) x4.out q5)
    have f5 := Lib.hid (blk_below (w := w4.drew) f4.out q5)
    have rm5 := Lib.hid (rm_below (w := w4.drew) rm4.out q5)
    have T5 := Lib.hid (tabs_below15 (w := w4.drew) T4.out q5)
    clear q5
    go_wp2_with fail
    refine hK.out _ _ (⟨blk_cell x5.out 0 _ rfl, blk_cell x5.out 1 _ rfl, blk_cell x5.out 2 _ rfl, blk_cell x5.out 3 _ rfl, blk_cell x5.out 4 _ rfl, blk_cell x5.out 5 _ rfl, blk_cell x5.out 6 _ rfl, blk_cell x5.out 7 _ rfl, blk_cell x5.out 8 _ rfl, blk_cell f5.out kk _ hG.out⟩) (fun hSn => ?_)
    clear hS
    have hS := hSn
    clear hSn
    clear hK K
    try simp only [Act.put, List.setIfInBounds_toArray, List.set_cons_zero, List.set_cons_succ]
    refine wpAnyH_ready (rs := [9]) (by kernel_rfl) (by simp) (AllReadyH.cons rfl (fun K hK => ?_) AllReadyH.nil)
    go_simp
    refine (hmeth.out _ _ T5.out rm5.out).mono ?_
    rintro e w6 ⟨vb, rfl, ob, q6⟩
    obtain ⟨pb, cb, rfl⟩ := ri_form (ri_of_own ob)
    have r6 := blk_below r5.out q6
    have x6 := Lib.hid (blk_below x5.out q6)
    have f6 := Lib.hid (blk_below f5.out q6)
    have o6 := Lib.hid (ownI_mono ob b5.out.size)
    have b6 := Lib.hid (below_on b5.out q6)
    clear q6 ob
    go_wp2_with fail
    refine hK.out _ _ (⟨blk_cell x6.out 0 _ rfl, blk_cell x6.out 1 _ rfl, blk_cell x6.out 2 _ rfl, blk_cell x6.out 3 _ rfl, blk_cell x6.out 4 _ rfl, blk_cell x6.out 5 _ rfl, blk_cell x6.out 6 _ rfl, blk_cell x6.out 7 _ rfl, blk_cell x6.out 8 _ rfl, blk_cell f6.out kk _ hG.out⟩) (fun hSn => ?_)
    clear hS
    have hS := hSn
    clear hSn
    clear hK K
    try simp only [Act.put, List.setIfInBounds_toArray, List.set_cons_zero, List.set_cons_succ]
    obtain ⟨y0, y1, y2, y3, y4, y5, y6, y7, y8⟩ := held9 r6
    have fy0 := blk_thaw r6 0
    have fy1 := blk_thaw r6 1
    have fy2 := blk_thaw r6 2
    have fy3 := blk_thaw r6 3
    have fy4 := blk_thaw r6 4
    have fy5 := blk_thaw r6 5
    have fy6 := blk_thaw r6 6
    have fy7 := blk_thaw r6 7
    have fy8 := blk_thaw r6 8
    replace r6 := Lib.hid r6
    have x7 := blk_but9 x6.out (show w.heap.size ≠ w.heap.size + 1 by omega) (.int .i64 kk) (.string ⟨#[]⟩) nilV nilV (.bool false) (.int .i64 0) (.bool false) (.bool false) nilV
    have f7 := blk_but9 f6.out hlt4.out (.int .i64 kk) (.string ⟨#[]⟩) nilV nilV (.bool false) (.int .i64 0) (.bool false) (.bool false) nilV
    unfold set9 at x7 f7
    replace x7 := Lib.hid x7
    replace f7 := Lib.hid f7
    refine wpAnyH_ready (rs := [10]) (by kernel_rfl) (by simp) (AllReadyH.cons rfl (fun K hK => ?_) AllReadyH.nil)
    go_simp
    go_wp2_with fail
    refine hK.out _ _ (⟨blk_cell x7.out 0 _ rfl, blk_cell x7.out 1 _ rfl, blk_cell x7.out 2 _ rfl, blk_cell x7.out 3 _ rfl, blk_cell x7.out 4 _ rfl, blk_cell x7.out 5 _ rfl, blk_cell x7.out 6 _ rfl, blk_cell x7.out 7 _ rfl, blk_cell x7.out 8 _ rfl, blk_cell f7.out kk _ hG.out⟩) (fun hSn => ?_)
    clear hS
    have hS := hSn
    clear hSn
    clear hK K
    try simp only [Act.put, List.setIfInBounds_toArray, List.set_cons_zero, List.set_cons_succ]
    refine' wpAnyH_take (i := 11) (oi := ⟨_, _, _, _, _, _⟩) (v := _) rfl (by kernel_rfl) (by kernel_rfl) (by kernel_rfl) (fun _ _ _ h => h) (Or.inl ⟨by rfl, ?hy11⟩) hS ?rest11
    case hy11 => (intro wz hSw; (try dsimp only at hSw); go_simp; try with_reducible rfl)
    try simp only [Act.put, List.setIfInBounds_toArray, List.set_cons_zero, List.set_cons_succ]
    refine wpAnyH_done (by kernel_rfl) ?_ _
    go_wp2_with fail
    have e6 := r6.out
    have hfin := fed_gen (v := mchV m (.slice pn m.n.length cn) (.slice pg m.g.length cg) (.slice pc m.c.length cc)) (q := (Mch.bare kk, L)) r6.out (Nat.le_succ w.heap.size) ⟨ri_nil15 _, at_nil _ _ _⟩ ⟨ri_nil15 _, at_nil _ _ _⟩ ⟨ri_nil15 _, at_nil _ _ _⟩ ⟨ri_of_own o6.out, at_own o6.out e6⟩ b6.out
    unfold set9 strV at hfin
    have r3' := r6.out
    have n9 := blk_set9 r3' (.int .i64 kk) (.string ⟨#[]⟩) nilV nilV (.bool false) (.int .i64 0) (.bool false) (.bool false) nilV
    unfold set9 at n9
    obtain ⟨z0, z1, z2, z3, z4, z5, z6, z7, z8⟩ := held9 n9
    refine bodyPost_ret (v := .tuple #[.agg #[(.int .i64 kk), (.string ⟨#[]⟩), nilV, nilV, (.bool false), (.int .i64 0), (.bool false), (.bool false), nilV], .slice pb L.length cb]) ?_ rfl ?_
    · simp [results, Tryz.results13, go_sem, z0, z1, z2, z3, z4, z5, z6, z7, z8]
    · exact hfin
theorem endC15 : EndC15 := fun v m w hT hs hv => end15_any v m w hT hs hv
set_option maxHeartbeats 6400000 in
set_option maxRecDepth 100000 in
theorem cost15_any (v : Value) (m : MS) (w : World) (hT : Tabs w) (hs : Mch.Small m) (hv : RM w v m) : Calls Tryz.prog 22 #[v] w fun e w' => e = .returned (.int .i64 (Mch.costM m : Nat)) ∧ Below w.heap.size w w' := by
  have hv0 := hv
  have hcost : Mch.costM m = (Mch.asM m).d.length + (Mch.asM m).n.length + (Mch.asM m).g.length + (Mch.asM m).c.length := by
    unfold Mch.costM Mch.asM
    split
    · rfl
    · rfl
  rw [hcost]
  clear hcost
  obtain ⟨vn, vg, vc, rfl, hvn, hvg, hvc⟩ := hv
  obtain ⟨pn, cn, rfl⟩ := ri_form hvn
  obtain ⟨pg, cg, rfl⟩ := ri_form hvg
  obtain ⟨pc, cc, rfl⟩ := ri_form hvc
  have hbox := blk_new w #[.int .i64 m.kind, .string ⟨m.d.toArray⟩, .slice pn m.n.length cn, .slice pg m.g.length cg, .bool m.s.on, .int .i64 m.s.kind, .bool m.s.pict, .bool m.s.odd, .slice pc m.c.length cc] 41
  have hb0 := below_new w (.cells #[.int .i64 m.kind, .string ⟨m.d.toArray⟩, .slice pn m.n.length cn, .slice pg m.g.length cg, .bool m.s.on, .int .i64 m.s.kind, .bool m.s.pict, .bool m.s.odd, .slice pc m.c.length cc] 41)
  obtain ⟨W, hW⟩ : ∃ W, w.alloc (.cells #[.int .i64 m.kind, .string ⟨m.d.toArray⟩, .slice pn m.n.length cn, .slice pg m.g.length cg, .bool m.s.on, .int .i64 m.s.kind, .bool m.s.pict, .bool m.s.odd, .slice pc m.c.length cc] 41) = W := ⟨_, rfl⟩
  rw [hW] at hbox hb0
  replace hW := Lib.hid hW
  have hkn := known15_any _ m W (tabs_below15 hT hb0) hs (rm_below hv0 hb0)
  have hsn := (Mch.sane_iff _).1 (Mch.as_sane m)
  have hok := rm_off hv0 (Nat.le_refl w.heap.size)
  have hok1 := rm_off hv0 (Nat.le_succ w.heap.size)
  unfold Known15 at hkn
  obtain ⟨M, hM⟩ : ∃ M, Mch.asM m = M := ⟨_, rfl⟩
  rw [hM] at hkn hsn ⊢
  obtain ⟨N, hN⟩ : ∃ N : Nat, M.d.length + M.n.length + M.g.length + M.c.length = N := ⟨_, rfl⟩
  rw [hN]
  unfold mchV strV at hkn hok hok1 ⊢
  replace hkn := Lib.hid hkn
  replace hsn := Lib.hid hsn
  replace hok := Lib.hid hok
  replace hok1 := Lib.hid hok1
  replace hbox := Lib.hid hbox
  replace hb0 := Lib.hid hb0
  replace hv0 := Lib.hid hv0
  replace hvn := Lib.hid hvn
  replace hvg := Lib.hid hvg
  replace hvc := Lib.hid hvc
  replace hM := Lib.hid hM
  replace hT := Lib.hid hT
  replace hN := Lib.hid hN
  clear hs
  go_enter Tryz.func22, Tryz.ntmps22
  go_upto_region 1 with (fail)
  rw [hW.out]
  obtain ⟨k0, k1, k2, k3, k4, k5, k6, k7, k8⟩ := held9 hbox.out
  go_cut [] (fun wx => RB15 w (.agg #[.int .i64 m.kind, .string ⟨m.d.toArray⟩, .slice pn m.n.length cn, .slice pg m.g.length cg, .bool m.s.on, .int .i64 m.s.kind, .bool m.s.pict, .bool m.s.odd, .slice pc m.c.length cc]) M w.heap.size wx)
  case first =>
    go_wp2_with fail
    refine hkn.out.mono ?_
    rintro e w1 ⟨va, rfl, ra, oa, q1⟩
    obtain ⟨qn, dn, qg, dg, qc, dc, rfl⟩ := rm_form ra
    have x1 := blk_below hbox.out q1
    have b1 := below_on hb0.out q1
    have hrb := Lib.hid (rb15_put (Nat.le_refl w.heap.size) x1 ra oa hok.out b1)
    unfold cellsM
    obtain ⟨y0, y1, y2, y3, y4, y5, y6, y7, y8⟩ := held9 x1
    have fy0 := blk_thaw x1 0
    have fy1 := blk_thaw x1 1
    have fy2 := blk_thaw x1 2
    have fy3 := blk_thaw x1 3
    have fy4 := blk_thaw x1 4
    have fy5 := blk_thaw x1 5
    have fy6 := blk_thaw x1 6
    have fy7 := blk_thaw x1 7
    have fy8 := blk_thaw x1 8
    clear x1 b1 ra oa q1 k0 k1 k2 k3 k4 k5 k6 k7 k8
    go_wp2_with fail
    go_meet
    have hA := hrb.out
    unfold set9 at hA
    exact hA
  case rest =>
    obtain ⟨un, ug, uc, hbx, rn, rg, rc, hoff, hbw⟩ := hcut
    obtain ⟨qn, dn, rfl⟩ := ri_form rn
    obtain ⟨qg, dg, rfl⟩ := ri_form rg
    obtain ⟨qc, dc, rfl⟩ := ri_form rc
    have hTc := Lib.hid (tabs_below15 hT.out hbw)
    clear k0 k1 k2 k3 k4 k5 k6 k7 k8
    have hsm := Mch.small_sane ((Mch.sane_iff M).2 hsn.out)
    obtain ⟨s1, s2, s3, s4⟩ := hsm
    have hsd : (⟨M.d.toArray⟩ : ByteArray).size = M.d.length := by simp [ByteArray.size]
    obtain ⟨S, hS⟩ : ∃ S : ByteArray, (⟨M.d.toArray⟩ : ByteArray) = S := ⟨_, rfl⟩
    rw [hS] at hsd
    unfold strV at hbx
    rw [hS] at hbx
    have hN2 := hN.out
    rw [← hsd] at s1 hN2
    have hw1 := wraps_i64_63 ((S.size : Int) + (M.n.length : Int)) (by omega) (by omega)
    have hw2 := wraps_i64_63 ((S.size : Int) + (M.n.length : Int) + (M.g.length : Int)) (by omega) (by omega)
    have hw3 := wraps_i64_63 ((S.size : Int) + (M.n.length : Int) + (M.g.length : Int) + (M.c.length : Int)) (by omega) (by omega)
    obtain ⟨y0, y1, y2, y3, y4, y5, y6, y7, y8⟩ := held9 hbx
    replace hbx := Lib.hid hbx
    replace rn := Lib.hid rn
    replace rg := Lib.hid rg
    replace rc := Lib.hid rc
    replace hoff := Lib.hid hoff
    replace hbw := Lib.hid hbw
    replace hsn := Lib.hid hsn
    replace hS := Lib.hid hS
    replace hsd := Lib.hid hsd
    replace hN2 := Lib.hid hN2
    go_wp2_with fail
    go_ret
    exact ⟨by rw [← hN2.out]; simp, hbw.out⟩
theorem costC15 : CostC15 := fun v m w hT hs hv => cost15_any v m w hT hs hv
end Go.Proofs.YtiidjkhkcckmkaaGreatDoor

/- Layer 15: the code's All. -/
namespace Go.Proofs.YtiidjkhkcckmkaaGreatDoor
set_option linter.unusedSimpArgs false
set_option linter.unusedVariables false
open Go.RowKit Go.Lib
open Mch (MS)
set_option maxHeartbeats 12800000 in
set_option maxRecDepth 100000 in
theorem all15_any (kind : Int) (va : Value) (a : List Int) (w : World) (hT : Tabs w) (hl : a.length ≤ 30000) (hra : RI w va a) (hwa : WfI a) :
    Calls Tryz.prog 24 #[.int .i64 kind, va] w (Told (Mch.allM kind a) w) := by
  obtain ⟨pa, ca, rfl⟩ := ri_form hra
  obtain ⟨i0, hi, hz0, hz1, hz2⟩ := info_parts info_i
  have hnew := Lib.hid (fun W => new15_any kind W)
  have hfeed := fun (l : List Int) (x : Int) (hx : I64 x) V W hT' h => feed15_any V (Mch.feedsM (Mch.newM kind) l).1 x W hT' (Mch.small_sane (Mch.feeds_sane kind l)) h hx
  have hend := fun V W hT' h => end15_any V (Mch.feedsM (Mch.newM kind) a).1 W hT' (Mch.small_sane (Mch.feeds_sane kind a)) h
  have het := (Mch.end_told (Mch.feedsM (Mch.newM kind) a).1).1
  unfold Mch.allM
  obtain ⟨G, hG⟩ : ∃ G, Mch.feedsM (Mch.newM kind) = G := ⟨_, rfl⟩
  have hG0 : G [] = (Mch.newM kind, []) := by rw [← hG]; rfl
  have hG1 : ∀ l x, G (l ++ [x]) = ((Mch.feedM (G l).1 x).1, (G l).2 ++ (Mch.feedM (G l).1 x).2) := by rw [← hG]; exact Mch.feeds_snoc _
  rw [hG] at hfeed hend het ⊢
  have hnk : Mch.newM kind = Mch.bare (if 0 ≤ kind ∧ kind ≤ 4 then kind else 0) := rfl
  obtain ⟨nk, hnke⟩ : ∃ nk, (if 0 ≤ kind ∧ kind ≤ 4 then kind else 0) = nk := ⟨_, rfl⟩
  rw [hnke] at hnk hnew
  obtain ⟨EE, hEE⟩ : ∃ EE, (G a).2 ++ (Mch.endM (G a).1).2 = EE := ⟨_, rfl⟩
  rw [hEE]
  replace hfeed := Lib.hid hfeed
  replace hend := Lib.hid hend
  replace het := Lib.hid het
  replace hEE := Lib.hid hEE
  replace hG0 := Lib.hid hG0
  replace hG1 := Lib.hid hG1
  replace hnk := Lib.hid hnk
  replace hra := Lib.hid hra
  replace hwa := Lib.hid hwa
  replace hT := Lib.hid hT
  clear hG hnke
  go_enter Tryz.func24, Tryz.ntmps24
  go_wp2_with fail
  refine (hnew.out _).mono ?_
  rintro e w2 ⟨rfl, q2⟩
  have hb2 := Lib.hid q2
  have T2 := Lib.hid (tabs_below15 hT.out q2)
  have st0 : Fed15 41 w2.heap.size w2 (G []) (.slice none 0 0) (w2.alloc (.cells (bare9 nk) 41)) := by
    rw [hG0.out, hnk.out]
    exact ⟨none, 0, none, 0, none, 0, blk_new _ _ _, ⟨nilV, nilV, nilV, rfl, .inl ⟨rfl, rfl⟩, .inl ⟨rfl, rfl⟩, .inl ⟨rfl, rfl⟩⟩, (offM_iff _ (Mch.bare nk) nilV nilV nilV).2 ⟨off_nil _, off_nil _, off_nil _⟩, (fun j e => by cases e), ownI_nil _ _, below_new w2 _⟩
  replace st0 := Lib.hid st0
  clear q2
  have hraW := Lib.hid (ri_below hra.out hb2.out)
  go_wp2_with fail
  go_loopg [6, 7, 9, 14] a.length (fun g vo v7 v9 vi wr => ∃ k : Nat, k ≤ a.length ∧ vi = .int .i64 k ∧ g = a.length - k ∧ (G (a.take k)).2.length ≤ 140 * k ∧ Fed15 41 w2.heap.size w2 (G (a.take k)) vo wr)
  case atStart => exact ⟨0, Nat.zero_le _, rfl, rfl, by rw [List.take_zero, hG0.out]; simp, by rw [List.take_zero]; exact st0.out⟩
  case round =>
    obtain ⟨k, hk, rfl, rfl, hol, pn', cn', pg', cg', pc', cc', hbox, hrm, hof, hap, hown, hbel⟩ := hrel
    have hTr := Lib.hid (tabs_below15 T2.out hbel)
    by_cases hlt : k < a.length
    · have hlt' : (k : Int) < (a.length : Int) := by omega
      obtain ⟨b, off, rfl, hb, hcell⟩ := ri_at hraW.out (by omega)
      have hc : wr.cell? ⟨b, off + k, none⟩ = some (.int .i64 a[k]) := (hbel.cell hb).trans (hcell k hlt)
      have hx64 := hwa.out a[k] (List.getElem_mem hlt)
      have hfd := hfeed.out (a.take k) a[k] hx64
      have hsn := hG1.out (a.take k) a[k]
      rw [← List.take_succ_eq_append_getElem hlt] at hsn
      obtain ⟨x, hx⟩ : ∃ x, a[k] = x := ⟨_, rfl⟩
      rw [hx] at hc hfd hsn
      have hft := Mch.feed_told (G (a.take k)).1 x
      obtain ⟨q, hq⟩ : ∃ q, Mch.feedM (G (a.take k)).1 x = q := ⟨_, rfl⟩
      rw [hq] at hfd hsn hft
      obtain ⟨Q, hQ⟩ : ∃ Q, G (a.take k) = Q := ⟨_, rfl⟩
      rw [hQ] at hfd hsn hbox hrm hof hap hown hol
      obtain ⟨M, o⟩ := Q
      obtain ⟨q1, q2⟩ := q
      dsimp only at hfd hsn hbox hrm hof hap hown hol hft
      obtain ⟨S, hS⟩ : ∃ S : ByteArray, (⟨M.d.toArray⟩ : ByteArray) = S := ⟨_, rfl⟩
      rw [hS] at hbox hrm hof hap
      unfold cellsM at hbox hrm hof hap
      have hkA : w2.heap.size < wr.heap.size := blk_lt hbox
      obtain ⟨c0, c1, c2, c3, c4, c5, c6, c7, c8⟩ := held9 hbox
      replace hfd := Lib.hid hfd
      replace hsn := Lib.hid hsn
      replace hbox := Lib.hid hbox
      replace hrm := Lib.hid hrm
      replace hof := Lib.hid hof
      replace hap := Lib.hid hap
      replace hown := Lib.hid hown
      replace hbel := Lib.hid hbel
      clear hcell hx hq hQ hS st0
      go_wp2_with fail
      refine (hfd.out _ _ hTr.out hrm.out).mono ?_
      rintro e wc ⟨va', vt, rfl, ra, rt, hoff, hbc⟩
      obtain ⟨qn, dn, qg, dg, qc, dc, rfl⟩ := rm_form ra
      obtain ⟨pt, ct, rfl⟩ := ri_form rt
      unfold cellsM at ra hoff ⊢
      dsimp only at ra rt hoff ⊢
      clear c0 c1 c2 c3 c4 c5 c6 c7 c8
      have hboxc := blk_below hbox.out hbc
      obtain ⟨y0, y1, y2, y3, y4, y5, y6, y7, y8⟩ := held9 hboxc
      have fy0 := blk_thaw hboxc 0
      have fy1 := blk_thaw hboxc 1
      have fy2 := blk_thaw hboxc 2
      have fy3 := blk_thaw hboxc 3
      have fy4 := blk_thaw hboxc 4
      have fy5 := blk_thaw hboxc 5
      have fy6 := blk_thaw hboxc 6
      have fy7 := blk_thaw hboxc 7
      have fy8 := blk_thaw hboxc 8
      have hnew' := blk_set9 hboxc (.int .i64 q1.kind) (.string ⟨q1.d.toArray⟩) (.slice qn q1.n.length dn) (.slice qg q1.g.length dg) (.bool q1.s.on) (.int .i64 q1.s.kind) (.bool q1.s.pict) (.bool q1.s.odd) (.slice qc q1.c.length dc)
      have hsame := same_set9 wc w2.heap.size (.int .i64 q1.kind) (.string ⟨q1.d.toArray⟩) (.slice qn q1.n.length dn) (.slice qg q1.g.length dg) (.bool q1.s.on) (.int .i64 q1.s.kind) (.bool q1.s.pict) (.bool q1.s.odd) (.slice qc q1.c.length dc)
      have hoS := hoff w2.heap.size hkA hof.out
      have ra2 := rm_but ra hsame (fun j e => e ▸ hoS.1)
      have rt2 := ri_src (ri_but rt hsame (fun j e => e ▸ hoS.2))
      have hnot := own_not hown.out (Nat.lt_succ_self w2.heap.size)
      have own2 := ownI_but (ownI_below hown.out hbc) hsame (fun j e h => hnot (by rw [h, e]))
      have hap2 := Lib.hid (fun j e => (hoff j (World.ownsRow.lt hown.out j e).2 (hap.out j e)).1)
      have hbel2 := below_set9 (hbel.out.trans (hbc.mono hbel.out.size)) (Nat.le_refl _) (.int .i64 q1.kind) (.string ⟨q1.d.toArray⟩) (.slice qn q1.n.length dn) (.slice qg q1.g.length dg) (.bool q1.s.on) (.int .i64 q1.s.kind) (.bool q1.s.pict) (.bool q1.s.odd) (.slice qc q1.c.length dc)
      have hsz : w2.heap.size + 1 ≤ (set9 wc w2.heap.size (.int .i64 q1.kind) (.string ⟨q1.d.toArray⟩) (.slice qn q1.n.length dn) (.slice qg q1.g.length dg) (.bool q1.s.on) (.int .i64 q1.s.kind) (.bool q1.s.pict) (.bool q1.s.odd) (.slice qc q1.c.length dc)).heap.size := by rw [set9_size]; exact Nat.le_trans hkA hbc.size
      obtain ⟨W9, hW9⟩ : ∃ W9, set9 wc w2.heap.size (.int .i64 q1.kind) (.string ⟨q1.d.toArray⟩) (.slice qn q1.n.length dn) (.slice qg q1.g.length dg) (.bool q1.s.on) (.int .i64 q1.s.kind) (.bool q1.s.pict) (.bool q1.s.odd) (.slice qc q1.c.length dc) = W9 := ⟨_, rfl⟩
      rw [hW9] at hnew' ra2 rt2 own2 hbel2 hsz
      unfold set9 at hW9
      have h8a := Lib.hid (show o.length + q2.length ≤ maxLen by unfold maxLen; omega)
      have h8b := Lib.hid (show (o.length + q2.length) * 8 ≤ 140737488355328 by omega)
      have hoS1 := Lib.hid hoS.1
      replace hnew' := Lib.hid hnew'
      replace ra2 := Lib.hid ra2
      replace rt2 := Lib.hid rt2
      replace own2 := Lib.hid own2
      replace hbel2 := Lib.hid hbel2
      replace hsz := Lib.hid hsz
      replace hW9 := Lib.hid hW9
      obtain ⟨po, co, rfl⟩ := ri_form (ri_of_own hown.out)
      clear ra rt hoff hbc hboxc hsame hoS hnot hfd hbox hrm hof hap hown hbel hc
      go_upto_region 7 with (fail)
      rw [hW9.out]
      clear hW9 y0 y1 y2 y3 y4 y5 y6 y7 y8 fy0 fy1 fy2 fy3 fy4 fy5 fy6 fy7 fy8
      go_wp2_with (at_builtin; refine wpList_append_src3 rfl _ _ 24 rfl (w2.heap.size + 1) 3 i0 (.int .i64 0) 8 Tryz.underlying24 hi hz0 hz1 hz2 rfl _ _ _ rfl own2.out _ _ rfl rt2.out (oneCellI q2) (by rw [List.length_map]; exact h8a.out) (by rw [List.length_map]; exact h8b.out) hsz.out ?_; intro v5 w5 hown5 hgrow5 hlies5; have o5 := Lib.hid (ownI_of_row (l := o ++ q2) hown5 (by simp) (by simp)); have x5 := Lib.hid (blk_grown hnew'.out hgrow5 (own_not own2.out (Nat.lt_succ_self _))); have r5 := Lib.hid (rm_but ra2.out (same_grown hgrow5) (fun j e => hap2.out j e)); have p5 := Lib.hid (off_lies hlies5 (fun j e => hap2.out j e) ra2.out); have b5 := Lib.hid (below_row hbel2.out hgrow5 (Nat.le_trans (Nat.le_succ _) hsz.out) own2.out (Nat.le_succ _)); clear hown5 hgrow5 hlies5)
      go_roundg (a.length - (k + 1))
      case measure => omega
      case rel => exact ⟨k + 1, by omega, by go_num, rfl, by rw [hsn.out]; simp; omega, by rw [hsn.out]; exact ⟨qn, dn, qg, dg, qc, dc, x5.out, r5.out, hoS1.out, p5.out, o5.out, b5.out⟩⟩
    · obtain rfl : k = a.length := by omega
      have hlt' : decide ((a.length : Int) < (a.length : Int)) = false := by simp
      rw [List.take_length] at hbox hrm hof hap hown hol
      have hend' := fun V W hT' h => hend.out V W hT' h
      have hEE' := hEE.out
      have het' := het.out
      obtain ⟨Q, hQ⟩ : ∃ Q, G a = Q := ⟨_, rfl⟩
      rw [hQ] at hbox hrm hown hol hend' hEE' het'
      obtain ⟨M, o⟩ := Q
      obtain ⟨D, hD⟩ : ∃ D, Mch.endM M = D := ⟨_, rfl⟩
      dsimp only at hbox hrm hown hol hend' hEE' het'
      rw [hD] at hend' hEE' het'
      obtain ⟨d1, d2⟩ := D
      dsimp only at hEE' het'
      unfold cellsM at hbox hrm
      obtain ⟨c0, c1, c2, c3, c4, c5, c6, c7, c8⟩ := held9 hbox
      have own0 := Lib.hid (ownI_mono hown (Nat.le_succ w2.heap.size))
      replace hend' := Lib.hid hend'
      replace hEE' := Lib.hid hEE'
      replace hbox := Lib.hid hbox
      replace hrm := Lib.hid hrm
      replace hbel := Lib.hid hbel
      replace hQ := Lib.hid hQ
      clear hof hap hown hraW
      go_wp2_with fail
      refine (hend'.out _ _ hTr.out hrm.out).mono ?_
      rintro e w3 ⟨ve, vt, rfl, re, rt, hoff, q3⟩
      obtain ⟨qn, dn, qg, dg, qc, dc, rfl⟩ := rm_form re
      obtain ⟨pt, ct, rfl⟩ := ri_form rt
      dsimp only at rt
      unfold cellsM
      have o3 := Lib.hid (ownI_below own0.out q3)
      have s3 := Lib.hid (ri_src rt)
      have b3 := Lib.hid (below_on hbel.out q3)
      clear re rt hoff q3 own0
      go_wp2_with (at_builtin; refine wpList_append_src rfl _ _ 24 rfl w2.heap.size 3 i0 (.int .i64 0) 8 Tryz.underlying24 hi hz0 hz1 hz2 rfl _ _ _ rfl o3.out _ _ rfl s3.out (oneCellI _) (by unfold maxLen; first | (simp; done) | (simp; omega)) (by first | (simp; done) | (simp; omega)) b3.out.size ?_; intro v4 w4 ho4 hg4; have o4 := Lib.hid (ownI_of_row (l := o ++ d2) ho4 (by (try simp); try omega) (by (try simp); try omega)); have b4 := Lib.hid (below_row b3.out hg4 b3.out.size o3.out (Nat.le_refl _)); clear ho4 hg4)
      go_ret
      exact ⟨_, rfl, by rw [← hEE'.out]; exact ri_of_own o4.out, below_on hb2.out b4.out⟩
theorem allC15 : AllC15 := fun k v l w hT hl hv hw _ => all15_any k v l w hT hl hv hw
end Go.Proofs.YtiidjkhkcckmkaaGreatDoor

