/- Layer 15: the document's Feed. -/
import Derived.Test.YtiidjkhkcckmkaaGreatDoorMaW0
import Derived.Test.YtiidjkhkcckmkaaGreatDoorMaR2
import Derived.Test.YtiidjkhkcckmkaaGreatDoorMaR3
import Derived.Test.YtiidjkhkcckmkaaGreatDoorMaBP
import Derived.Test.YtiidjkhkcckmkaaGreatDoorNoRP
import Derived.Test.YtiidjkhkcckmkaaGreatDoorFoR2
import Derived.Test.YtiidjkhkcckmkaaGreatDoorSgRP
import Derived.Test.YtiidjkhkcckmkaaGreatDoorBasP
namespace Go.Proofs.YtiidjkhkcckmkaaGreatDoor
set_option linter.unusedSimpArgs false
set_option linter.unusedVariables false
open Go.RowKit Go.Lib
open Mch (MS)
def R15 (w : World) (v : Value) (M : MS) (wx : World) : Prop :=
  ∃ vn vg vc, Blk wx w.heap.size #[.int .i64 M.kind, strV M.d, vn, vg, .bool M.s.on, .int .i64 M.s.kind, .bool M.s.pict, .bool M.s.odd, vc] 32 ∧ RI wx vn M.n ∧ RI wx vg M.g ∧ RI wx vc M.c ∧ (∀ j, OffM j v → OffM j (mchV M vn vg vc)) ∧ Blk wx (w.heap.size + 1) (bare9 0) 32 ∧ Below w.heap.size w wx
theorem r15_same {w W wx : World} {m : MS} {vn vg vc : Value} (hb : Blk wx w.heap.size #[.int .i64 m.kind, strV m.d, vn, vg, .bool m.s.on, .int .i64 m.s.kind, .bool m.s.pict, .bool m.s.odd, vc] 32) (hr : Blk wx (w.heap.size + 1) (bare9 0) 32) (h : Below w.heap.size w wx) (h1 : RI w vn m.n) (h2 : RI w vg m.g) (h3 : RI w vc m.c) : R15 w (mchV m vn vg vc) m wx :=
  ⟨vn, vg, vc, hb, ri_below h1 h, ri_below h2 h, ri_below h3 h, fun _ h => h, hr, h⟩
theorem r15_new {w wx : World} {v : Value} {k : Int} {z0 z1 z2 z3 z4 z5 z6 z7 z8 : Value} (hb : Blk wx w.heap.size #[z0, z1, z2, z3, z4, z5, z6, z7, z8] 32) (hr : Blk wx (w.heap.size + 1) (bare9 0) 32) (h : Below w.heap.size w wx) : R15 w v (Mch.bare k) (set9 wx w.heap.size (.int .i64 k) (.string ⟨#[]⟩) nilV nilV (.bool false) (.int .i64 0) (.bool false) (.bool false) nilV) := by
  refine ⟨nilV, nilV, nilV, blk_set9 hb _ _ _ _ _ _ _ _ _, .inl ⟨rfl, rfl⟩, .inl ⟨rfl, rfl⟩, .inl ⟨rfl, rfl⟩, fun j _ => (offM_iff j _ _ _ _).2 ⟨off_nil j, off_nil j, off_nil j⟩, ?_, below_set9 h (Nat.le_refl _) _ _ _ _ _ _ _ _ _⟩
  exact (set9_block wx w.heap.size _ _ _ _ _ _ _ _ _ _ (by simp)).trans hr
theorem and255 (x : Int) : bits .and .i64 x 255 = x % 256 := and_mod x 8 (by decide)
set_option maxHeartbeats 12800000 in
set_option maxRecDepth 100000 in
theorem rfeed15_any (v : Value) (m : MS) (x : Int) (w : World) (hs : Mch.Small m) (hv : RM w v m) (hx : I64 x) : Calls Tryz.prog 12 #[v, .int .i64 x] w (FedM v (Mch.feedM m x) w) := by
  obtain ⟨i0, hi, hz0, hz1, hz2⟩ := info_parts info_i
  have hv0 := hv
  obtain ⟨vn, vg, vc, rfl, hvn, hvg, hvc⟩ := hv
  obtain ⟨pn, cn, rfl⟩ := ri_form hvn
  obtain ⟨pg, cg, rfl⟩ := ri_form hvg
  obtain ⟨pc, cc, rfl⟩ := ri_form hvc
  have hbox0 := blk_new w #[.int .i64 m.kind, .string ⟨m.d.toArray⟩, .slice pn m.n.length cn, .slice pg m.g.length cg, .bool m.s.on, .int .i64 m.s.kind, .bool m.s.pict, .bool m.s.odd, .slice pc m.c.length cc] 32
  have hbox := blk_alloc hbox0 (.cells (bare9 0) 32)
  have hres := blk_new (w.alloc (.cells #[.int .i64 m.kind, .string ⟨m.d.toArray⟩, .slice pn m.n.length cn, .slice pg m.g.length cg, .bool m.s.on, .int .i64 m.s.kind, .bool m.s.pict, .bool m.s.odd, .slice pc m.c.length cc] 32)) (bare9 0) 32
  rw [World.size_alloc] at hres
  have hb0 := (below_new w (.cells #[.int .i64 m.kind, .string ⟨m.d.toArray⟩, .slice pn m.n.length cn, .slice pg m.g.length cg, .bool m.s.on, .int .i64 m.s.kind, .bool m.s.pict, .bool m.s.odd, .slice pc m.c.length cc] 32)).alloc (by simp) (.cells (bare9 0) 32)
  obtain ⟨W, hW⟩ : ∃ W, (w.alloc (.cells #[.int .i64 m.kind, .string ⟨m.d.toArray⟩, .slice pn m.n.length cn, .slice pg m.g.length cg, .bool m.s.on, .int .i64 m.s.kind, .bool m.s.pict, .bool m.s.odd, .slice pc m.c.length cc] 32)).alloc (.cells (bare9 0) 32) = W := ⟨_, rfl⟩
  rw [hW] at hbox hres hb0
  clear hbox0
  replace hW := Lib.hid hW
  have hsane := rsane15_any _ m W hs (rm_below hv0 hb0)
  have hnew := fun W' => rnew15_any m.kind W'
  have hM1 : ∀ h : Mch.saneM m = true, Mch.asM m = m := Mch.as_same
  have hM2 : ∀ h : Mch.saneM m = false, Mch.asM m = Mch.bare (if 0 ≤ m.kind ∧ m.kind ≤ 4 then m.kind else 0) := fun h => by unfold Mch.asM; rw [if_neg (by rw [h]; simp)]; rfl
  have hsn := (Mch.sane_iff _).1 (Mch.as_sane m)
  unfold Mch.feedM
  obtain ⟨M, hM⟩ : ∃ M, Mch.asM m = M := ⟨_, rfl⟩
  rw [hM] at hsn hM1 hM2 ⊢
  obtain ⟨q, hq⟩ : ∃ q, Mch.feedK M x = q := ⟨_, rfl⟩
  rw [hq]
  replace hq := Lib.hid hq
  obtain ⟨nk, hnk⟩ : ∃ nk, (if 0 ≤ m.kind ∧ m.kind ≤ 4 then m.kind else 0) = nk := ⟨_, rfl⟩
  rw [hnk] at hM2 hnew
  obtain ⟨b, hb⟩ : ∃ b, Mch.saneM m = b := ⟨_, rfl⟩
  rw [hb] at hsane hM1 hM2
  unfold mchV strV at hsane ⊢
  replace hsane := Lib.hid hsane
  replace hnew := Lib.hid hnew
  replace hM1 := Lib.hid hM1
  replace hM2 := Lib.hid hM2
  replace hsn := Lib.hid hsn
  replace hbox := Lib.hid hbox
  replace hres := Lib.hid hres
  replace hb0 := Lib.hid hb0
  replace hv0 := Lib.hid hv0
  replace hvn := Lib.hid hvn
  replace hvg := Lib.hid hvg
  replace hvc := Lib.hid hvc
  replace hx := Lib.hid hx
  clear hM hb hnk hs
  go_enter Tryz.func12, Tryz.ntmps12
  go_upto_region 1 with (fail)
  rw [hW.out]
  obtain ⟨c0, c1, c2, c3, c4, c5, c6, c7, c8⟩ := held9 hbox.out
  go_upto_if 16 with (go_at_call 21; refine hsane.out.mono ?_; rintro e w1 ⟨rfl, q1⟩; have x1 := Lib.hid (blk_below hbox.out q1); have r1 := Lib.hid (blk_below hres.out q1); have b1 := Lib.hid (below_on hb0.out q1); clear q1)
  go_cut [] (fun wx => R15 w (mchV m (.slice pn m.n.length cn) (.slice pg m.g.length cg) (.slice pc m.c.length cc)) M wx)
  case first =>
    rcases b with _ | _
    · obtain rfl := hM2.out rfl
      clear c0 c1 c2 c3 c4 c5 c6 c7 c8
      obtain ⟨c0, c1, c2, c3, c4, c5, c6, c7, c8⟩ := held9 x1.out
      go_wp2_with (go_at_call 19; refine (hnew.out _).mono ?_; rintro e w2 ⟨rfl, q2⟩; have x2 := blk_below x1.out q2; have r2 := Lib.hid (blk_below r1.out q2); have b2 := Lib.hid (below_on b1.out q2); obtain ⟨d0, d1, d2, d3, d4, d5, d6, d7, d8⟩ := held9 x2; have f0 := blk_thaw x2 0; have f1 := blk_thaw x2 1; have f2 := blk_thaw x2 2; have f3 := blk_thaw x2 3; have f4 := blk_thaw x2 4; have f5 := blk_thaw x2 5; have f6 := blk_thaw x2 6; have f7 := blk_thaw x2 7; have f8 := blk_thaw x2 8; replace x2 := Lib.hid x2; clear q2)
      go_meet
      have h := r15_new (v := mchV m (.slice pn m.n.length cn) (.slice pg m.g.length cg) (.slice pc m.c.length cc)) (k := nk) x2.out r2.out b2.out
      unfold set9 at h
      exact h
    · obtain rfl := hM1.out rfl
      go_wp2_with fail
      go_meet
      exact r15_same (W := W) x1.out r1.out b1.out hvn.out hvg.out hvc.out
  case rest =>
    obtain ⟨un, ug, uc, hbx, rn, rg, rc, hoff, hrs, hbw⟩ := hcut
    obtain ⟨pn', cn', rfl⟩ := ri_form rn
    obtain ⟨pg', cg', rfl⟩ := ri_form rg
    obtain ⟨pc', cc', rfl⟩ := ri_form rc
    have hk5 : M.kind = 0 ∨ M.kind = 1 ∨ M.kind = 2 ∨ M.kind = 3 ∨ M.kind = 4 := by have := hsn.out.kind; omega
    have hsm := Mch.small_sane ((Mch.sane_iff M).2 hsn.out)
    have hnb := fun u (h : OffM u (mchV m (.slice pn m.n.length cn) (.slice pg m.g.length cg) (.slice pc m.c.length cc))) => hoff u h
    have hst : ∀ d : List UInt8, (⟨d.toArray⟩ : ByteArray).data.toList = d := fun d => by simp
    replace hsn := Lib.hid hsn
    replace hnb := Lib.hid hnb
    replace hoff := Lib.hid hoff
    replace hsm := Lib.hid hsm
    replace hbw := Lib.hid hbw
    replace rn := Lib.hid rn
    replace rg := Lib.hid rg
    replace rc := Lib.hid rc
    replace hst := Lib.hid hst
    unfold strV at hbx
    clear hM1 hM2 hnew hsane c0 c1 c2 c3 c4 c5 c6 c7 c8 x1 r1 b1
    rcases hk5 with h0 | h0 | h0 | h0 | h0
    · obtain ⟨F1, F2, hF⟩ : ∃ a b, Dec.feedL M.d (Mch.byteOf x) = (a, b) := ⟨_, _, rfl⟩
      have hfk : q = ({ Mch.bare 0 with d := F1 }, F2) := by rw [← hq.out]; unfold Mch.feedK; rw [if_pos h0, hF]
      clear hq
      subst hfk
      rw [h0] at hbx
      replace h0 := Lib.hid h0
      have h255 := and255 x
      have hby := byte_of x
      have hfd := fun W' => Tq.rfeed_any ⟨M.d.toArray⟩ M.d (hst.out M.d) hsm.out.d (Mch.byteOf x) W'
      rw [hF] at hfd
      dsimp only at hfd
      replace hfd := Lib.hid hfd
      clear hF
      obtain ⟨k0, k1, k2, k3, k4, k5, k6, k7, k8⟩ := held9 hbx
      replace hbx := Lib.hid hbx
      replace hrs := Lib.hid hrs
      go_wp2_with (go_at_call 34; refine (hfd.out _).mono ?_; rintro e w3 ⟨T, vt, rfl, rfl, hot, q3⟩; have hot := ownI_mono (show OwnI _ vt F2 w3 from hot) hbw.out.size; obtain ⟨pt, ct, rfl⟩ := ri_form (ri_of_own hot); have r3 := blk_alloc (blk_below hrs.out q3) (.cells #[.string T] 23); have b3 := Lib.hid ((below_on hbw.out q3).alloc (below_on hbw.out q3).size (.cells #[.string T] 23)); have o3 := Lib.hid (ownI_alloc hot (.cells #[.string T] 23)); obtain ⟨y0, y1, y2, y3, y4, y5, y6, y7, y8⟩ := held9 r3; have fy0 := blk_thaw r3 0; have fy1 := blk_thaw r3 1; have fy2 := blk_thaw r3 2; have fy3 := blk_thaw r3 3; have fy4 := blk_thaw r3 4; have fy5 := blk_thaw r3 5; have fy6 := blk_thaw r3 6; have fy7 := blk_thaw r3 7; have fy8 := blk_thaw r3 8; replace r3 := Lib.hid r3; clear q3)
      have hTT : (⟨T.data.toList.toArray⟩ : ByteArray) = T := by cases T; simp
      have e3 := r3.out
      have hfin := fed_gen (v := mchV m (.slice pn m.n.length cn) (.slice pg m.g.length cg) (.slice pc m.c.length cc)) (q := ({ Mch.bare 0 with d := T.data.toList }, F2)) r3.out (Nat.le_succ w.heap.size) ⟨ri_nil15 _, at_nil _ _ _⟩ ⟨ri_nil15 _, at_nil _ _ _⟩ ⟨ri_nil15 _, at_nil _ _ _⟩ ⟨ri_of_own o3.out, at_own o3.out e3⟩ b3.out
      unfold set9 strV at hfin
      have r3' := r3.out
      have n9 := blk_set9 r3' (.int .i64 0) (.string T) nilV nilV (.bool false) (.int .i64 0) (.bool false) (.bool false) nilV
      unfold set9 at n9
      obtain ⟨z0, z1, z2, z3, z4, z5, z6, z7, z8⟩ := held9 n9
      refine bodyPost_ret (v := .tuple #[.agg #[(.int .i64 0), (.string T), nilV, nilV, (.bool false), (.int .i64 0), (.bool false), (.bool false), nilV], .slice pt F2.length ct]) ?_ rfl ?_
      · simp [results, Tryz.results12, go_sem, z0, z1, z2, z3, z4, z5, z6, z7, z8]
      · exact hfin
    · obtain ⟨F1, F2, hF⟩ : ∃ a b, Nor.feedI M.n x = (a, b) := ⟨_, _, rfl⟩
      have hfk : q = ({ Mch.bare 1 with n := F1 }, F2) := by rw [← hq.out]; unfold Mch.feedK; rw [if_neg (by omega), if_pos h0, hF]
      clear hq
      subst hfk
      rw [h0] at hbx
      replace h0 := Lib.hid h0
      have hfd := fun W' (h : RI W' (.slice pn' M.n.length cn') M.n) => rfeed9_own _ M.n x W' (by have := hsm.out.n; omega) h
      rw [hF] at hfd
      unfold FedOwn at hfd
      dsimp only at hfd
      replace hfd := Lib.hid hfd
      clear hF
      obtain ⟨k0, k1, k2, k3, k4, k5, k6, k7, k8⟩ := held9 hbx
      replace hbx := Lib.hid hbx
      replace hrs := Lib.hid hrs
      go_wp2_with (go_at_call 35; refine (hfd.out _ rn.out).mono ?_; rintro e w3 ⟨va, vb, rfl, ha, hb, q3⟩; have ha := ownI_mono ha hbw.out.size; have hb := ownI_mono hb hbw.out.size; obtain ⟨pa, ca, rfl⟩ := ri_form (ri_of_own ha); obtain ⟨pb, cb, rfl⟩ := ri_form (ri_of_own hb); have r3 := blk_alloc (blk_below hrs.out q3) (.cells #[.slice pa F1.length ca] 26); have b3 := Lib.hid ((below_on hbw.out q3).alloc (below_on hbw.out q3).size (.cells #[.slice pa F1.length ca] 26)); have a3 := Lib.hid (ownI_alloc ha (.cells #[.slice pa F1.length ca] 26)); have o3 := Lib.hid (ownI_alloc hb (.cells #[.slice pa F1.length ca] 26)); obtain ⟨y0, y1, y2, y3, y4, y5, y6, y7, y8⟩ := held9 r3; have fy0 := blk_thaw r3 0; have fy1 := blk_thaw r3 1; have fy2 := blk_thaw r3 2; have fy3 := blk_thaw r3 3; have fy4 := blk_thaw r3 4; have fy5 := blk_thaw r3 5; have fy6 := blk_thaw r3 6; have fy7 := blk_thaw r3 7; have fy8 := blk_thaw r3 8; replace r3 := Lib.hid r3; clear q3)
      have e3 := r3.out
      have hfin := fed_gen (v := mchV m (.slice pn m.n.length cn) (.slice pg m.g.length cg) (.slice pc m.c.length cc)) (q := ({ Mch.bare 1 with n := F1 }, F2)) r3.out (Nat.le_succ w.heap.size) ⟨ri_of_own a3.out, at_own a3.out e3⟩ ⟨ri_nil15 _, at_nil _ _ _⟩ ⟨ri_nil15 _, at_nil _ _ _⟩ ⟨ri_of_own o3.out, at_own o3.out e3⟩ b3.out
      unfold set9 strV at hfin
      have r3' := r3.out
      have n9 := blk_set9 r3' (.int .i64 1) (.string ⟨#[]⟩) (.slice pa F1.length ca) nilV (.bool false) (.int .i64 0) (.bool false) (.bool false) nilV
      unfold set9 at n9
      obtain ⟨z0, z1, z2, z3, z4, z5, z6, z7, z8⟩ := held9 n9
      refine bodyPost_ret (v := .tuple #[.agg #[(.int .i64 1), (.string ⟨#[]⟩), (.slice pa F1.length ca), nilV, (.bool false), (.int .i64 0), (.bool false), (.bool false), nilV], .slice pb F2.length cb]) ?_ rfl ?_
      · simp [results, Tryz.results12, go_sem, z0, z1, z2, z3, z4, z5, z6, z7, z8]
      · exact hfin
    · obtain ⟨F1, F2, hF⟩ : ∃ a b, Fol.feedI M.n x = (a, b) := ⟨_, _, rfl⟩
      have hfk : q = ({ Mch.bare 2 with n := F1 }, F2) := by rw [← hq.out]; unfold Mch.feedK; rw [if_neg (by omega), if_neg (by omega), if_pos h0, hF]
      clear hq
      subst hfk
      rw [h0] at hbx
      replace h0 := Lib.hid h0
      have hfd := fun W' (h : RI W' (.slice pn' M.n.length cn') M.n) => rfeed10_own _ M.n x W' (by have := hsm.out.n; omega) h
      rw [hF] at hfd
      unfold Fed10o at hfd
      dsimp only at hfd
      replace hfd := Lib.hid hfd
      clear hF
      obtain ⟨k0, k1, k2, k3, k4, k5, k6, k7, k8⟩ := held9 hbx
      replace hbx := Lib.hid hbx
      replace hrs := Lib.hid hrs
      go_wp2_with (go_at_call 36; refine (hfd.out _ rn.out).mono ?_; rintro e w3 ⟨va, vb, rfl, ha, hb, hor, q3⟩; have hb := ownI_mono hb hbw.out.size; obtain ⟨pa, ca, rfl⟩ := ri_form ha; obtain ⟨pb, cb, rfl⟩ := ri_form (ri_of_own hb); have r3 := blk_alloc (blk_below hrs.out q3) (.cells #[.slice pa F1.length ca] 26); have b3 := Lib.hid ((below_on hbw.out q3).alloc (below_on hbw.out q3).size (.cells #[.slice pa F1.length ca] 26)); have a3 := Lib.hid (ri_below ha (below_new w3 (.cells #[.slice pa F1.length ca] 26))); have o3 := Lib.hid (ownI_alloc hb (.cells #[.slice pa F1.length ca] 26)); have hor3 := Lib.hid (hor.imp (fun h => ownI_alloc (ownI_mono h hbw.out.size) (.cells #[.slice pa F1.length ca] 26)) id); clear hor; obtain ⟨y0, y1, y2, y3, y4, y5, y6, y7, y8⟩ := held9 r3; have fy0 := blk_thaw r3 0; have fy1 := blk_thaw r3 1; have fy2 := blk_thaw r3 2; have fy3 := blk_thaw r3 3; have fy4 := blk_thaw r3 4; have fy5 := blk_thaw r3 5; have fy6 := blk_thaw r3 6; have fy7 := blk_thaw r3 7; have fy8 := blk_thaw r3 8; replace r3 := Lib.hid r3; clear q3)
      have e3 := r3.out
      have hat : At15 w (w.heap.size + 1) (mchV m (.slice pn m.n.length cn) (.slice pg m.g.length cg) (.slice pc m.c.length cc)) (.slice pa F1.length ca) := by
        rcases hor3.out with h | ⟨_, h | h⟩
        · exact at_own h e3
        · rw [h]
          exact at_old (fun j hj => ((offM_iff j _ _ _ _).1 (hoff.out j hj)).1) hv0.out (Nat.le_succ _)
        · rw [h]
          exact at_nil _ _ _
      have hfin := fed_gen (v := mchV m (.slice pn m.n.length cn) (.slice pg m.g.length cg) (.slice pc m.c.length cc)) (q := ({ Mch.bare 2 with n := F1 }, F2)) r3.out (Nat.le_succ w.heap.size) ⟨a3.out, hat⟩ ⟨ri_nil15 _, at_nil _ _ _⟩ ⟨ri_nil15 _, at_nil _ _ _⟩ ⟨ri_of_own o3.out, at_own o3.out e3⟩ b3.out
      unfold set9 strV at hfin
      have r3' := r3.out
      have n9 := blk_set9 r3' (.int .i64 2) (.string ⟨#[]⟩) (.slice pa F1.length ca) nilV (.bool false) (.int .i64 0) (.bool false) (.bool false) nilV
      unfold set9 at n9
      obtain ⟨z0, z1, z2, z3, z4, z5, z6, z7, z8⟩ := held9 n9
      refine bodyPost_ret (v := .tuple #[.agg #[(.int .i64 2), (.string ⟨#[]⟩), (.slice pa F1.length ca), nilV, (.bool false), (.int .i64 0), (.bool false), (.bool false), nilV], .slice pb F2.length cb]) ?_ rfl ?_
      · simp [results, Tryz.results12, go_sem, z0, z1, z2, z3, z4, z5, z6, z7, z8]
      · exact hfin
    · obtain ⟨G1, S1, T1, hF⟩ : ∃ a b c, Sgm.feedI M.g M.s x = ((a, b), c) := ⟨_, _, _, rfl⟩
      have hfk : q = ({ Mch.bare 3 with g := G1, s := S1 }, Mch.cutOf T1) := by rw [← hq.out]; unfold Mch.feedK; rw [if_neg (by omega), if_neg (by omega), if_neg (by omega), if_pos h0, hF]
      clear hq
      obtain ⟨s1, s2, s3, s4⟩ := S1
      subst hfk
      rw [h0] at hbx
      replace h0 := Lib.hid h0
      have hfd := fun W' (h : RI W' (.slice pg' M.g.length cg') M.g) => rfeed12_own _ M.g M.s x W' (by have := hsm.out.g; omega) h
      rw [hF] at hfd
      unfold Fed12v sgV at hfd
      dsimp only at hfd
      replace hfd := Lib.hid hfd
      clear hF
      obtain ⟨k0, k1, k2, k3, k4, k5, k6, k7, k8⟩ := held9 hbx
      replace hbx := Lib.hid hbx
      replace hrs := Lib.hid hrs
      go_upto_region 14 with (fail)
      go_wp2_with fail
      refine (hfd.out _ rg.out).mono ?_
      rintro e w3 ⟨va, vb, rfl, ha, hb, q3⟩
      have hTl : T1.length ≤ 1000 := by (have := hsm.out.g; rcases hb with ⟨_, h⟩ | ⟨_, h⟩ <;> rw [h] <;> first | assumption | simp)
      have hbT : RI w3 vb T1 := by (rcases hb with ⟨h1, h2⟩ | ⟨h1, h2⟩; (rw [h1, h2]; exact ri_below rg.out q3); (rw [h1, h2]; exact ri_nil15 _))
      clear hb
      have ha := ownI_mono ha hbw.out.size
      obtain ⟨pa, ca, rfl⟩ := ri_form (ri_of_own ha)
      obtain ⟨pb, cb, rfl⟩ := ri_form hbT
      have r3 := blk_alloc (blk_below hrs.out q3) (.cells #[.slice pa G1.length ca, .bool s1, .int .i64 s2, .bool s3, .bool s4] 30)
      have b3 := Lib.hid ((below_on hbw.out q3).alloc (below_on hbw.out q3).size (.cells #[.slice pa G1.length ca, .bool s1, .int .i64 s2, .bool s3, .bool s4] 30))
      have a3 := Lib.hid (ownI_alloc ha (.cells #[.slice pa G1.length ca, .bool s1, .int .i64 s2, .bool s3, .bool s4] 30))
      have t3 := Lib.hid (ri_below hbT (below_new w3 (.cells #[.slice pa G1.length ca, .bool s1, .int .i64 s2, .bool s3, .bool s4] 30)))
      have x3 := Lib.hid (blk_new w3 #[.slice pa G1.length ca, .bool s1, .int .i64 s2, .bool s3, .bool s4] 30)
      have hcu := Lib.hid (fun W' h => rcut15_any (.slice pb T1.length cb) T1 W' hTl h)
      have hlt := Lib.hid (show w.heap.size + 1 < w3.heap.size from blk_lt (blk_below hrs.out q3))
      obtain ⟨y0, y1, y2, y3, y4, y5, y6, y7, y8⟩ := held9 r3
      have fy0 := blk_thaw r3 0
      have fy1 := blk_thaw r3 1
      have fy2 := blk_thaw r3 2
      have fy3 := blk_thaw r3 3
      have fy4 := blk_thaw r3 4
      have fy5 := blk_thaw r3 5
      have fy6 := blk_thaw r3 6
      have fy7 := blk_thaw r3 7
      have fy8 := blk_thaw r3 8
      replace r3 := Lib.hid r3
      clear q3
      go_upto_region 15 with (fail)
      clear y0 y1 y2 y3 y4 y5 y6 y7 y8 fy0 fy1 fy2 fy3 fy4 fy5 fy6 fy7 fy8 k0 k1 k2 k3 k4 k5 k6 k7 k8
      obtain ⟨w4, hw4⟩ : ∃ w4, w3.alloc (.cells #[.slice pa G1.length ca, .bool s1, .int .i64 s2, .bool s3, .bool s4] 30) = w4 := ⟨_, rfl⟩
      rw [hw4] at r3 b3 a3 t3 x3 ⊢
      replace hw4 := Lib.hid hw4
      refine wp_region_held_drew (S := fun w' => w'.cell? ⟨w3.heap.size, 0, none⟩ = some (.slice pa G1.length ca) ∧ w'.cell? ⟨w3.heap.size, 1, none⟩ = some (.bool s1) ∧ w'.cell? ⟨w3.heap.size, 2, none⟩ = some (.int .i64 s2) ∧ w'.cell? ⟨w3.heap.size, 3, none⟩ = some (.bool s3) ∧ w'.cell? ⟨w3.heap.size, 4, none⟩ = some (.bool s4)) (by kernel_rfl) (held5_15 x3.out) (fun hS => ?_)
      refine' wpAnyH_take (i := 0) (oi := ⟨_, _, _, _, _, _⟩) (v := _) rfl (by kernel_rfl) (by kernel_rfl) (by kernel_rfl) (fun _ _ _ h => h) (Or.inl ⟨by rfl, ?hyk30⟩) hS ?restk30
      case hyk30 => (intro wz hSw; (try dsimp only at hSw); go_simp; try with_reducible rfl)
      try simp only [Act.put, List.setIfInBounds_toArray, List.set_cons_zero, List.set_cons_succ]
      refine' wpAnyH_take (i := 1) (oi := ⟨_, _, _, _, _, _⟩) (v := _) rfl (by kernel_rfl) (by kernel_rfl) (by kernel_rfl) (fun _ _ _ h => h) (Or.inl ⟨by rfl, ?hyk31⟩) hS ?restk31
      case hyk31 => (intro wz hSw; (try dsimp only at hSw); go_simp; try with_reducible rfl)
      try simp only [Act.put, List.setIfInBounds_toArray, List.set_cons_zero, List.set_cons_succ]
      refine' wpAnyH_take (i := 2) (oi := ⟨_, _, _, _, _, _⟩) (v := _) rfl (by kernel_rfl) (by kernel_rfl) (by kernel_rfl) (fun _ _ _ h => h) (Or.inl ⟨by rfl, ?hyk32⟩) hS ?restk32
      case hyk32 => (intro wz hSw; (try dsimp only at hSw); go_simp; try with_reducible rfl)
      try simp only [Act.put, List.setIfInBounds_toArray, List.set_cons_zero, List.set_cons_succ]
      refine wpAnyH_ready (rs := [3]) (by kernel_rfl) (by simp) (AllReadyH.cons rfl (fun K hK => ?_) AllReadyH.nil)
      go_simp
      go_at_call 38
      refine (hcu.out _ (ri_drew t3.out)).mono ?_
      rintro e w5 ⟨vt, rfl, ht, q5⟩
      obtain ⟨pt, ct, rfl⟩ := ri_form (ri_of_own ht)
      have r5 := blk_below (w := w4.drew) r3.out q5
      have b5 := Lib.hid (below_on (show Below w.heap.size w w4.drew from b3.out.drew) q5)
      have a5 := Lib.hid (ownI_below (w := w4.drew) a3.out q5)
      have t5 := Lib.hid (ownI_mono ht (show w.heap.size ≤ w4.drew.heap.size from b3.out.size))
      have x5 := Lib.hid (blk_below (w := w4.drew) x3.out q5)
      clear q5 ht
      go_wp2_with fail
      refine hK.out _ _ (held5_15 x5.out) (fun hSn => ?_)
      clear hS
      have hS := hSn
      clear hSn
      clear hK K
      try simp only [Act.put, List.setIfInBounds_toArray, List.set_cons_zero, List.set_cons_succ]
      obtain ⟨y0, y1, y2, y3, y4, y5, y6, y7, y8⟩ := held9 r5
      have fy0 := blk_thaw r5 0
      have fy1 := blk_thaw r5 1
      have fy2 := blk_thaw r5 2
      have fy3 := blk_thaw r5 3
      have fy4 := blk_thaw r5 4
      have fy5 := blk_thaw r5 5
      have fy6 := blk_thaw r5 6
      have fy7 := blk_thaw r5 7
      have fy8 := blk_thaw r5 8
      replace r5 := Lib.hid r5
      refine wpAnyH_ready (rs := [4]) (by kernel_rfl) (by simp) (AllReadyH.cons rfl (fun K hK => ?_) AllReadyH.nil)
      go_simp
      go_wp2_with fail
      refine hK.out _ _ (by have h := blk_but9 x5.out (show w3.heap.size ≠ w.heap.size + 1 by have := hlt.out; omega) (.int .i64 3) (.string ⟨#[]⟩) nilV (.slice pa G1.length ca) (.bool s1) (.int .i64 s2) (.bool s3) (.bool s4) nilV; unfold set9 at h; exact held5_15 h) (fun hSn => ?_)
      clear hS
      have hS := hSn
      clear hSn
      clear hK K
      try simp only [Act.put, List.setIfInBounds_toArray, List.set_cons_zero, List.set_cons_succ]
      refine' wpAnyH_take (i := 5) (oi := ⟨_, _, _, _, _, _⟩) (v := _) rfl (by kernel_rfl) (by kernel_rfl) (by kernel_rfl) (fun _ _ _ h => h) (Or.inl ⟨by rfl, ?hyk35⟩) hS ?restk35
      case hyk35 => (intro wz hSw; (try dsimp only at hSw); go_simp; try with_reducible rfl)
      try simp only [Act.put, List.setIfInBounds_toArray, List.set_cons_zero, List.set_cons_succ]
      refine wpAnyH_done (by kernel_rfl) ?_ _
      go_wp2_with fail
      have e5 := r5.out
      have hfin := fed_gen (v := mchV m (.slice pn m.n.length cn) (.slice pg m.g.length cg) (.slice pc m.c.length cc)) (q := ({ Mch.bare 3 with g := G1, s := ⟨s1, s2, s3, s4⟩ }, Mch.cutOf T1)) r5.out (Nat.le_succ w.heap.size) ⟨ri_nil15 _, at_nil _ _ _⟩ ⟨ri_of_own a5.out, at_own a5.out e5⟩ ⟨ri_nil15 _, at_nil _ _ _⟩ ⟨ri_of_own t5.out, at_own t5.out e5⟩ b5.out
      unfold set9 strV at hfin
      have r3' := r5.out
      have n9 := blk_set9 r3' (.int .i64 3) (.string ⟨#[]⟩) nilV (.slice pa G1.length ca) (.bool s1) (.int .i64 s2) (.bool s3) (.bool s4) nilV
      unfold set9 at n9
      obtain ⟨z0, z1, z2, z3, z4, z5, z6, z7, z8⟩ := held9 n9
      refine bodyPost_ret (v := .tuple #[.agg #[(.int .i64 3), (.string ⟨#[]⟩), nilV, (.slice pa G1.length ca), (.bool s1), (.int .i64 s2), (.bool s3), (.bool s4), nilV], .slice pt (Mch.cutOf T1).length ct]) ?_ rfl ?_
      · simp [results, Tryz.results12, go_sem, z0, z1, z2, z3, z4, z5, z6, z7, z8]
      · exact hfin
    · have hfr := fun W' (h : RM W' (mchV M (.slice pn' M.n.length cn') (.slice pg' M.g.length cg') (.slice pc' M.c.length cc')) M) => rframed15_any _ M x W' h0 hsn.out.c h
      rw [hq.out] at hfr
      unfold mchV strV at hfr
      have hrm : RowKit.Hid (RM wc (mchV M (.slice pn' M.n.length cn') (.slice pg' M.g.length cg') (.slice pc' M.c.length cc')) M) := ⟨_, _, _, rfl, rn.out, rg.out, rc.out⟩
      unfold mchV strV at hrm
      have hk4 : M.kind = 4 := h0
      replace h0 := Lib.hid h0
      replace hfr := Lib.hid hfr
      obtain ⟨k0, k1, k2, k3, k4, k5, k6, k7, k8⟩ := held9 hbx
      replace hbx := Lib.hid hbx
      have hrlt := Lib.hid (blk_lt hrs)
      replace hrs := Lib.hid hrs
      go_upto_region 16 with (fail)
      replace hk4 := Lib.hid hk4
      go_wp2_with (go_at_call 39; refine (hfr.out _ hrm.out).mono ?_; rintro e w3 ⟨va, vb, rfl, ra, rb, ho, q3⟩; obtain ⟨qn, dn, qg, dg, qc, dc, rfl⟩ := rm_form ra; obtain ⟨pb, cb, rfl⟩ := ri_form rb; have r3 := blk_below hrs.out q3; have b3 := Lib.hid (below_on hbw.out q3); unfold cellsM at ra ho ⊢; replace ra := Lib.hid ra; replace rb := Lib.hid rb; replace ho := Lib.hid ho; obtain ⟨y0, y1, y2, y3, y4, y5, y6, y7, y8⟩ := held9 r3; have f0 := blk_thaw r3 0; have f1 := blk_thaw r3 1; have f2 := blk_thaw r3 2; have f3 := blk_thaw r3 3; have f4 := blk_thaw r3 4; have f5 := blk_thaw r3 5; have f6 := blk_thaw r3 6; have f7 := blk_thaw r3 7; have f8 := blk_thaw r3 8; replace r3 := Lib.hid r3; clear q3)
      have hs9 := same_set9 w3 (w.heap.size + 1) (.int .i64 q.1.kind) (.string ⟨q.1.d.toArray⟩) (.slice qn q.1.n.length dn) (.slice qg q.1.g.length dg) (.bool q.1.s.on) (.int .i64 q.1.s.kind) (.bool q.1.s.pict) (.bool q.1.s.odd) (.slice qc q.1.c.length dc)
      have hb9 := below_set9 b3.out (Nat.le_succ w.heap.size) (.int .i64 q.1.kind) (.string ⟨q.1.d.toArray⟩) (.slice qn q.1.n.length dn) (.slice qg q.1.g.length dg) (.bool q.1.s.on) (.int .i64 q.1.s.kind) (.bool q.1.s.pict) (.bool q.1.s.odd) (.slice qc q.1.c.length dc)
      have ho1 := ho.out (w.heap.size + 1) hrlt.out (hoff.out _ (rm_off hv0.out (Nat.le_succ _)))
      have hfin : FedM _ q w _ _ := ⟨_, _, rfl, rm_but ra.out hs9 (fun j e => e ▸ ho1.1), ri_but rb.out hs9 (fun j e => e ▸ ho1.2), fun j hj hvj => ho.out j (Nat.lt_of_lt_of_le hj hbw.out.size) (hoff.out j hvj), hb9⟩
      unfold set9 at hfin
      have r3' := r3.out
      have n9 := blk_set9 r3' (.int .i64 q.1.kind) (.string ⟨q.1.d.toArray⟩) (.slice qn q.1.n.length dn) (.slice qg q.1.g.length dg) (.bool q.1.s.on) (.int .i64 q.1.s.kind) (.bool q.1.s.pict) (.bool q.1.s.odd) (.slice qc q.1.c.length dc)
      unfold set9 at n9
      obtain ⟨z0, z1, z2, z3, z4, z5, z6, z7, z8⟩ := held9 n9
      refine bodyPost_ret (v := .tuple #[.agg #[.int .i64 q.1.kind, .string ⟨q.1.d.toArray⟩, .slice qn q.1.n.length dn, .slice qg q.1.g.length dg, .bool q.1.s.on, .int .i64 q.1.s.kind, .bool q.1.s.pict, .bool q.1.s.odd, .slice qc q.1.c.length dc], .slice pb q.2.length cb]) ?_ rfl ?_
      · simp [results, Tryz.results12, go_sem, z0, z1, z2, z3, z4, z5, z6, z7, z8]
      · exact hfin
end Go.Proofs.YtiidjkhkcckmkaaGreatDoor
