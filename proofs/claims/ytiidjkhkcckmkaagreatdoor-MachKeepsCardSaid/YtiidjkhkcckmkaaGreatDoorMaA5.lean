/- Layer 15: what the code's machines tell at the end. -/
import Derived.Test.YtiidjkhkcckmkaaGreatDoorMaA3
import Derived.Test.YtiidjkhkcckmkaaGreatDoorNoQ
import Derived.Test.YtiidjkhkcckmkaaGreatDoorSgP
import Derived.Test.YtiidjkhkcckmkaaGreatDoorMaW0
namespace Go.Proofs.YtiidjkhkcckmkaaGreatDoor
set_option linter.unusedSimpArgs false
set_option linter.unusedVariables false
open Go.RowKit Go.Lib
open Mch (MS)
set_option maxHeartbeats 6400000 in
set_option maxRecDepth 100000 in
theorem endDecode15_any (v : Value) (m : MS) (w : World) (hT : Tabs w) (h0 : m.kind = 0) (hv : RM w v m) : Calls Tryz.prog 40 #[v] w (Makes (Mch.endK m) w) := by
  obtain ⟨vn, vg, vc, rfl, hvn, hvg, hvc⟩ := hv
  obtain ⟨pn, cn, rfl⟩ := ri_form hvn
  obtain ⟨pg, cg, rfl⟩ := ri_form hvg
  obtain ⟨pc, cc, rfl⟩ := ri_form hvc
  have hbox := blk_new w #[.int .i64 m.kind, .string ⟨m.d.toArray⟩, .slice pn m.n.length cn, .slice pg m.g.length cg, .bool m.s.on, .int .i64 m.s.kind, .bool m.s.pict, .bool m.s.odd, .slice pc m.c.length cc] 41
  have hb0 := below_new w (.cells #[.int .i64 m.kind, .string ⟨m.d.toArray⟩, .slice pn m.n.length cn, .slice pg m.g.length cg, .bool m.s.on, .int .i64 m.s.kind, .bool m.s.pict, .bool m.s.odd, .slice pc m.c.length cc] 41)
  obtain ⟨W, hW⟩ : ∃ W, w.alloc (.cells #[.int .i64 m.kind, .string ⟨m.d.toArray⟩, .slice pn m.n.length cn, .slice pg m.g.length cg, .bool m.s.on, .int .i64 m.s.kind, .bool m.s.pict, .bool m.s.odd, .slice pc m.c.length cc] 41) = W := ⟨_, rfl⟩
  rw [hW] at hbox hb0
  replace hW := Lib.hid hW
  obtain ⟨L, hL⟩ : ∃ L, Dec.endLL m.d = L := ⟨_, rfl⟩
  have hfk : Mch.endK m = L := by unfold Mch.endK; rw [if_pos h0, hL]
  rw [hfk]
  have hfd := fun W' hT' => Tx.end_any ⟨m.d.toArray⟩ W' hT'
  rw [Dec.begB_eq] at hfd
  unfold Dec.endLL at hL
  rw [hL] at hfd
  have hTW := tabs_below15 hT hb0
  unfold mchV strV
  replace hfd := Lib.hid hfd
  replace hTW := Lib.hid hTW
  replace hbox := Lib.hid hbox
  replace hb0 := Lib.hid hb0
  replace hvn := Lib.hid hvn
  replace hvg := Lib.hid hvg
  replace hvc := Lib.hid hvc
  replace h0 := Lib.hid h0
  clear hfk hT hL
  go_enter Tryz.func40, Tryz.ntmps40
  go_upto_region 1 with (fail)
  rw [hW.out]
  obtain ⟨k0, k1, k2, k3, k4, k5, k6, k7, k8⟩ := held9 hbox.out
  go_wp2_with fail
  refine (hfd.out _ hTW.out).mono ?_
  rintro e w3 ⟨vt, rfl, hot, q3⟩
  have o3 := Lib.hid (ownI_mono (show OwnI _ vt L w3 from hot) hb0.out.size)
  have b3 := Lib.hid (below_on hb0.out q3)
  clear q3 hot
  go_wp2_with fail
  go_ret
  exact ⟨_, rfl, o3.out, b3.out⟩
set_option maxHeartbeats 6400000 in
set_option maxRecDepth 100000 in
theorem endNorm15_any (v : Value) (m : MS) (w : World) (h0 : m.kind = 1 ∨ m.kind = 2) (hsm : Mch.Small m) (hv : RM w v m) : Calls Tryz.prog 41 #[v] w (Makes (Mch.endK m) w) := by
  obtain ⟨vn, vg, vc, rfl, hvn, hvg, hvc⟩ := hv
  obtain ⟨pn, cn, rfl⟩ := ri_form hvn
  obtain ⟨pg, cg, rfl⟩ := ri_form hvg
  obtain ⟨pc, cc, rfl⟩ := ri_form hvc
  have hbox := blk_new w #[.int .i64 m.kind, .string ⟨m.d.toArray⟩, .slice pn m.n.length cn, .slice pg m.g.length cg, .bool m.s.on, .int .i64 m.s.kind, .bool m.s.pict, .bool m.s.odd, .slice pc m.c.length cc] 41
  have hb0 := below_new w (.cells #[.int .i64 m.kind, .string ⟨m.d.toArray⟩, .slice pn m.n.length cn, .slice pg m.g.length cg, .bool m.s.on, .int .i64 m.s.kind, .bool m.s.pict, .bool m.s.odd, .slice pc m.c.length cc] 41)
  obtain ⟨W, hW⟩ : ∃ W, w.alloc (.cells #[.int .i64 m.kind, .string ⟨m.d.toArray⟩, .slice pn m.n.length cn, .slice pg m.g.length cg, .bool m.s.on, .int .i64 m.s.kind, .bool m.s.pict, .bool m.s.odd, .slice pc m.c.length cc] 41) = W := ⟨_, rfl⟩
  rw [hW] at hbox hb0
  replace hW := Lib.hid hW
  obtain ⟨L, hL⟩ : ∃ L, Nor.endI m.n = L := ⟨_, rfl⟩
  have hfk : Mch.endK m = L := by unfold Mch.endK; rw [if_neg (by omega), if_pos h0, hL]
  rw [hfk]
  have hfd := fun W' (h : RI W' (.slice pn m.n.length cn) m.n) => end9_own _ m.n W' (by have := hsm.n; omega) h
  rw [hL] at hfd
  unfold Makes at hfd
  have hvnW := ri_below hvn hb0
  unfold mchV strV
  replace hfd := Lib.hid hfd
  replace hvnW := Lib.hid hvnW
  replace hbox := Lib.hid hbox
  replace hb0 := Lib.hid hb0
  replace hvn := Lib.hid hvn
  replace hvg := Lib.hid hvg
  replace hvc := Lib.hid hvc
  replace h0 := Lib.hid h0
  clear hfk hL
  go_enter Tryz.func41, Tryz.ntmps41
  go_upto_region 1 with (fail)
  rw [hW.out]
  obtain ⟨k0, k1, k2, k3, k4, k5, k6, k7, k8⟩ := held9 hbox.out
  go_wp2_with fail
  refine (hfd.out _ hvnW.out).mono ?_
  rintro e w3 ⟨vt, rfl, hot, q3⟩
  have o3 := Lib.hid (ownI_mono hot hb0.out.size)
  have b3 := Lib.hid (below_on hb0.out q3)
  clear q3 hot
  go_wp2_with fail
  go_ret
  exact ⟨_, rfl, o3.out, b3.out⟩
set_option maxHeartbeats 6400000 in
set_option maxRecDepth 100000 in
theorem endSegment15_any (v : Value) (m : MS) (w : World) (h0 : m.kind = 3) (hsn : Mch.Sane m) (hsm : Mch.Small m) (hv : RM w v m) : Calls Tryz.prog 42 #[v] w (Makes (Mch.endK m) w) := by
  obtain ⟨vn, vg, vc, rfl, hvn, hvg, hvc⟩ := hv
  obtain ⟨pn, cn, rfl⟩ := ri_form hvn
  obtain ⟨pg, cg, rfl⟩ := ri_form hvg
  obtain ⟨pc, cc, rfl⟩ := ri_form hvc
  have hbox := blk_new w #[.int .i64 m.kind, .string ⟨m.d.toArray⟩, .slice pn m.n.length cn, .slice pg m.g.length cg, .bool m.s.on, .int .i64 m.s.kind, .bool m.s.pict, .bool m.s.odd, .slice pc m.c.length cc] 41
  have hb0 := below_new w (.cells #[.int .i64 m.kind, .string ⟨m.d.toArray⟩, .slice pn m.n.length cn, .slice pg m.g.length cg, .bool m.s.on, .int .i64 m.s.kind, .bool m.s.pict, .bool m.s.odd, .slice pc m.c.length cc] 41)
  obtain ⟨W, hW⟩ : ∃ W, w.alloc (.cells #[.int .i64 m.kind, .string ⟨m.d.toArray⟩, .slice pn m.n.length cn, .slice pg m.g.length cg, .bool m.s.on, .int .i64 m.s.kind, .bool m.s.pict, .bool m.s.odd, .slice pc m.c.length cc] 41) = W := ⟨_, rfl⟩
  rw [hW] at hbox hb0
  replace hW := Lib.hid hW
  obtain ⟨L, hL⟩ : ∃ L, Sgm.endI m.g m.s = L := ⟨_, rfl⟩
  have hfk : Mch.endK m = Mch.cutOf L := by unfold Mch.endK; rw [if_neg (by omega), if_neg (by omega), if_pos h0, hL]
  rw [hfk]
  have hLl : L.length ≤ 1000 := by
    rw [← hL, well_end12]
    have := well_len m.g m.s
    omega
  have hfd := fun W' (h : RI W' (.slice pg m.g.length cg) m.g) => end12_any _ m.g m.s W' (by have := hsm.g; omega) h
  rw [hL] at hfd
  have hcu := fun W' u (h : RI W' u L) => withCut15_any u L W' hLl h
  unfold Makes at hcu
  unfold sgV at hfd
  have hvgW := ri_below hvg hb0
  unfold mchV strV
  replace hfd := Lib.hid hfd
  replace hcu := Lib.hid hcu
  replace hvgW := Lib.hid hvgW
  replace hbox := Lib.hid hbox
  replace hb0 := Lib.hid hb0
  replace hvn := Lib.hid hvn
  replace hvg := Lib.hid hvg
  replace hvc := Lib.hid hvc
  replace h0 := Lib.hid h0
  clear hfk hL
  go_enter Tryz.func42, Tryz.ntmps42
  go_upto_region 1 with (fail)
  rw [hW.out]
  obtain ⟨k0, k1, k2, k3, k4, k5, k6, k7, k8⟩ := held9 hbox.out
  go_wp2_with fail
  refine (hfd.out _ hvgW.out).mono ?_
  rintro e w3 ⟨vt, rfl, hot, q3⟩
  have b3 := Lib.hid (below_on hb0.out q3)
  obtain ⟨pt, ct, rfl⟩ := ri_form (ri_of_own hot)
  have t3 := Lib.hid (ri_of_own hot)
  clear q3 hot
  go_wp2_with fail
  refine (hcu.out _ _ t3.out).mono ?_
  rintro e w4 ⟨vu, rfl, hou, q4⟩
  have o4 := Lib.hid (ownI_mono hou b3.out.size)
  have b4 := Lib.hid (below_on b3.out q4)
  clear q4 hou
  go_wp2_with fail
  go_ret
  exact ⟨_, rfl, o4.out, b4.out⟩
set_option maxHeartbeats 6400000 in
set_option maxRecDepth 100000 in
theorem endFramer15_any (v : Value) (m : MS) (w : World) (h0 : m.kind = 4) (hv : RM w v m) : Calls Tryz.prog 43 #[v] w (Makes (Mch.endK m) w) := by
  obtain ⟨vn, vg, vc, rfl, hvn, hvg, hvc⟩ := hv
  obtain ⟨pn, cn, rfl⟩ := ri_form hvn
  obtain ⟨pg, cg, rfl⟩ := ri_form hvg
  obtain ⟨pc, cc, rfl⟩ := ri_form hvc
  have hbox := blk_new w #[.int .i64 m.kind, .string ⟨m.d.toArray⟩, .slice pn m.n.length cn, .slice pg m.g.length cg, .bool m.s.on, .int .i64 m.s.kind, .bool m.s.pict, .bool m.s.odd, .slice pc m.c.length cc] 41
  have hb0 := below_new w (.cells #[.int .i64 m.kind, .string ⟨m.d.toArray⟩, .slice pn m.n.length cn, .slice pg m.g.length cg, .bool m.s.on, .int .i64 m.s.kind, .bool m.s.pict, .bool m.s.odd, .slice pc m.c.length cc] 41)
  obtain ⟨W, hW⟩ : ∃ W, w.alloc (.cells #[.int .i64 m.kind, .string ⟨m.d.toArray⟩, .slice pn m.n.length cn, .slice pg m.g.length cg, .bool m.s.on, .int .i64 m.s.kind, .bool m.s.pict, .bool m.s.odd, .slice pc m.c.length cc] 41) = W := ⟨_, rfl⟩
  rw [hW] at hbox hb0
  replace hW := Lib.hid hW
  have hfk : Mch.endK m = [] := by unfold Mch.endK; rw [if_neg (by omega), if_neg (by omega), if_neg (by omega)]
  rw [hfk]
  unfold mchV strV
  replace hbox := Lib.hid hbox
  replace hb0 := Lib.hid hb0
  replace hvn := Lib.hid hvn
  replace hvg := Lib.hid hvg
  replace hvc := Lib.hid hvc
  replace h0 := Lib.hid h0
  clear hfk
  go_enter Tryz.func43, Tryz.ntmps43
  go_upto_region 1 with (fail)
  rw [hW.out]
  obtain ⟨k0, k1, k2, k3, k4, k5, k6, k7, k8⟩ := held9 hbox.out
  go_wp2_with fail
  go_ret
  exact ⟨_, rfl, ownI_nil _ _, hb0.out⟩
end Go.Proofs.YtiidjkhkcckmkaaGreatDoor
