/- Texts that stand together. -/
import Derived.Test.YtiidjkhkcckmkaaGreatDoorMaR4
import Derived.Test.YtiidjkhkcckmkaaGreatDoorBasP
import Derived.Test.YtiidjkhkcckmkaaGreatDoorMaBP
import Derived.Deep.RegionHeld3
import Derived.WalkKit
import Derived.Deep.RegionHeld
import Derived.Deep.LoopGhost
import Derived.Deep.DeepCutAuto
import Derived.OrdersHeld
/- Layer 15: the document's End, Cost. -/
namespace Go.Proofs.YtiidjkhkcckmkaaGreatDoor
set_option linter.unusedSimpArgs false
set_option linter.unusedVariables false
open Go.RowKit Go.Lib
open Mch (MS)
set_option maxHeartbeats 12800000 in
set_option maxRecDepth 100000 in
theorem rend15_any (v : Value) (m : MS) (w : World) (hs : Mch.Small m) (hv : RM w v m) : Calls Tryz.prog 14 #[v] w (FedM v (Mch.endM m) w) := by
  obtain ⟨i0, hi, hz0, hz1, hz2⟩ := info_parts info_i
  have hv0 := hv
  obtain ⟨vn, vg, vc, rfl, hvn, hvg, hvc⟩ := hv
  obtain ⟨pn, cn, rfl⟩ := ri_form hvn
  obtain ⟨pg, cg, rfl⟩ := ri_form hvg
  obtain ⟨pc, cc, rfl⟩ := ri_form hvc
  have hbox0 := blk_new w #[.int .i64 m.kind, .string ⟨m.d.toArray⟩, .slice pn m.n.length cn, .slice pg m.g.length cg, .bool m.s.on, .int .i64 m.s.kind, .bool m.s.pict, .bool m.s.odd, .slice pc m.c.length cc] 32
  have hbox := blk_alloc hbox0 (.cells (bare9 0) 32)
  have hres := blk_new (w.alloc (.cells #[.int .i64 m.kind, .string ⟨m.d.toArray⟩, .slice pn m.n.length cn, .slice pg m.g.length cg, .bool m.s.on, .int .i64 m.s.kind, .bool m.s.pict, .bool m.s.odd, .slice pc m.c.length cc] 32)) (bare9 0) 32
  rw [World.size_alloc] at hres
  have hb0 := (below_new w (.cells #[.int .i64 m.kind, .string ⟨m.d.toArray⟩, .slice pn m.n.length cn, .slice pg m.g.length cg, .bool m.s.on, .int .i64 m.s.kind, .bool m.s.pict, .bool m.s.odd, .slice pc m.c.length cc] 32)).alloc (by simp) (.cells (bare9 0) 32)
  obtain ⟨W, hW⟩ : ∃ W, (w.alloc (.cells #[.int .i64 m.kind, .string ⟨m.d.toArray⟩, .slice pn m.n.length cn, .slice pg m.g.length cg, .bool m.s.on, .int .i64 m.s.kind, .bool m.s.pict, .bool m.s.odd, .slice pc m.c.length cc] 32)).alloc (.cells (bare9 0) 32) = W := ⟨_, rfl⟩
  rw [hW] at hbox hres hb0
  clear hbox0
  replace hW := Lib.hid hW
  have hsane := rsane15_any _ m W hs (rm_below hv0 hb0)
  have hnew := fun W' => rnew15_any m.kind W'
  have hM1 : ∀ h : Mch.saneM m = true, Mch.asM m = m := Mch.as_same
  have hM2 : ∀ h : Mch.saneM m = false, Mch.asM m = Mch.bare (if 0 ≤ m.kind ∧ m.kind ≤ 4 then m.kind else 0) := fun h => by unfold Mch.asM; rw [if_neg (by rw [h]; simp)]; rfl
  have hsn := (Mch.sane_iff _).1 (Mch.as_sane m)
  unfold Mch.endM
  obtain ⟨M, hM⟩ : ∃ M, Mch.asM m = M := ⟨_, rfl⟩
  rw [hM] at hsn hM1 hM2 ⊢
  obtain ⟨q, hq⟩ : ∃ q, (Mch.newM M.kind, Mch.endK M) = q := ⟨_, rfl⟩
  rw [hq]
  replace hq := Lib.hid hq
  obtain ⟨nk, hnk⟩ : ∃ nk, (if 0 ≤ m.kind ∧ m.kind ≤ 4 then m.kind else 0) = nk := ⟨_, rfl⟩
  rw [hnk] at hM2 hnew
  obtain ⟨b, hb⟩ : ∃ b, Mch.saneM m = b := ⟨_, rfl⟩
  rw [hb] at hsane hM1 hM2
  unfold mchV strV at hsane ⊢
  replace hsane := Lib.hid hsane
  replace hnew := Lib.hid hnew
  replace hM1 := Lib.hid hM1
  replace hM2 := Lib.hid hM2
  replace hsn := Lib.hid hsn
  replace hbox := Lib.hid hbox
  replace hres := Lib.hid hres
  replace hb0 := Lib.hid hb0
  replace hv0 := Lib.hid hv0
  replace hvn := Lib.hid hvn
  replace hvg := Lib.hid hvg
  replace hvc := Lib.hid hvc
  clear hM hb hnk hs
  go_enter Tryz.func14, Tryz.ntmps14
  go_upto_region 1 with (fail)
  rw [hW.out]
  obtain ⟨c0, c1, c2, c3, c4, c5, c6, c7, c8⟩ := held9 hbox.out
  go_upto_if 7 with (go_at_call 21; refine hsane.out.mono ?_; rintro e w1 ⟨rfl, q1⟩; have x1 := Lib.hid (blk_below hbox.out q1); have r1 := Lib.hid (blk_below hres.out q1); have b1 := Lib.hid (below_on hb0.out q1); clear q1)
  go_cut [] (fun wx => R15 w (mchV m (.slice pn m.n.length cn) (.slice pg m.g.length cg) (.slice pc m.c.length cc)) M wx)
  case first =>
    rcases b with _ | _
    · obtain rfl := hM2.out rfl
      clear c0 c1 c2 c3 c4 c5 c6 c7 c8
      obtain ⟨c0, c1, c2, c3, c4, c5, c6, c7, c8⟩ := held9 x1.out
      go_wp2_with (go_at_call 19; refine (hnew.out _).mono ?_; rintro e w2 ⟨rfl, q2⟩; have x2 := blk_below x1.out q2; have r2 := Lib.hid (blk_below r1.out q2); have b2 := Lib.hid (below_on b1.out q2); obtain ⟨d0, d1, d2, d3, d4, d5, d6, d7, d8⟩ := held9 x2; have f0 := blk_thaw x2 0; have f1 := blk_thaw x2 1; have f2 := blk_thaw x2 2; have f3 := blk_thaw x2 3; have f4 := blk_thaw x2 4; have f5 := blk_thaw x2 5; have f6 := blk_thaw x2 6; have f7 := blk_thaw x2 7; have f8 := blk_thaw x2 8; replace x2 := Lib.hid x2; clear q2)
      go_meet
      have h := r15_new (v := mchV m (.slice pn m.n.length cn) (.slice pg m.g.length cg) (.slice pc m.c.length cc)) (k := nk) x2.out r2.out b2.out
      unfold set9 at h
      exact h
    · obtain rfl := hM1.out rfl
      go_wp2_with fail
      go_meet
      exact r15_same (W := W) x1.out r1.out b1.out hvn.out hvg.out hvc.out
  case rest =>
    obtain ⟨un, ug, uc, hbx, rn, rg, rc, hoff, hrs, hbw⟩ := hcut
    obtain ⟨pn', cn', rfl⟩ := ri_form rn
    obtain ⟨pg', cg', rfl⟩ := ri_form rg
    obtain ⟨pc', cc', rfl⟩ := ri_form rc
    have hk5 : M.kind = 0 ∨ M.kind = 1 ∨ M.kind = 2 ∨ M.kind = 3 ∨ M.kind = 4 := by have := hsn.out.kind; omega
    have hsm := Mch.small_sane ((Mch.sane_iff M).2 hsn.out)
    have hnb := fun u (h : OffM u (mchV m (.slice pn m.n.length cn) (.slice pg m.g.length cg) (.slice pc m.c.length cc))) => hoff u h
    have hst : ∀ d : List UInt8, (⟨d.toArray⟩ : ByteArray).data.toList = d := fun d => by simp
    replace hsn := Lib.hid hsn
    replace hnb := Lib.hid hnb
    replace hoff := Lib.hid hoff
    replace hsm := Lib.hid hsm
    replace hbw := Lib.hid hbw
    replace rn := Lib.hid rn
    replace rg := Lib.hid rg
    replace rc := Lib.hid rc
    replace hst := Lib.hid hst
    unfold strV at hbx
    clear hM1 hM2 hnew hsane c0 c1 c2 c3 c4 c5 c6 c7 c8 x1 r1 b1
    have hnk := Lib.hid (fun W' => rnew15_any M.kind W')
    have h04 := hsn.out.kind
    rw [if_pos h04] at hnk
    obtain ⟨k0, k1, k2, k3, k4, k5, k6, k7, k8⟩ := held9 hbx
    replace hbx := Lib.hid hbx
    replace hrs := Lib.hid hrs
    replace h04 := Lib.hid h04
    go_wp2_with fail
    refine (hnk.out _).mono ?_
    rintro e w3 ⟨rfl, q3⟩
    have x3 := blk_below hbx.out q3
    have r3 := blk_below hrs.out q3
    have b3 := below_on hbw.out q3
    have x4 := blk_alloc x3 (.cells (bare9 M.kind) 32)
    have r4 := blk_alloc r3 (.cells (bare9 M.kind) 32)
    have b4 := b3.alloc b3.size (.cells (bare9 M.kind) 32)
    have t4 := blk_new w3 (bare9 M.kind) 32
    have n4 := ri_below (ri_below rn.out q3) (below_new w3 (.cells (bare9 M.kind) 32))
    have g4 := ri_below (ri_below rg.out q3) (below_new w3 (.cells (bare9 M.kind) 32))
    have hkt : w.heap.size + 1 < w3.heap.size := blk_lt r3
    have hsz := b3.size
    replace x3 := Lib.hid x3
    replace r3 := Lib.hid r3
    replace b3 := Lib.hid b3
    replace x4 := Lib.hid x4
    replace r4 := Lib.hid r4
    replace b4 := Lib.hid b4
    replace t4 := Lib.hid t4
    replace n4 := Lib.hid n4
    replace g4 := Lib.hid g4
    replace hkt := Lib.hid hkt
    replace hsz := Lib.hid hsz
    clear q3 k0 k1 k2 k3 k4 k5 k6 k7 k8
    go_upto_region 4 with (fail)
    obtain ⟨w4, hw4⟩ : ∃ w4, w3.alloc (.cells (bare9 M.kind) 32) = w4 := ⟨_, rfl⟩
    obtain ⟨kt, hke⟩ : ∃ kt, w3.heap.size = kt := ⟨_, rfl⟩
    rw [hw4] at x4 r4 b4 t4 n4 g4 ⊢
    rw [hke] at t4 hkt ⊢
    replace hw4 := Lib.hid hw4
    replace hke := Lib.hid hke
    have hse := (Mch.sane_iff M).2 hsn.out
    replace hse := Lib.hid hse
    have e4 := x4.out
    obtain ⟨k0, k1, k2, k3, k4, k5, k6, k7, k8⟩ := held9 e4
    replace e4 := Lib.hid e4
    rcases hk5 with h0 | h0 | h0 | h0 | h0
    · obtain ⟨L, hL⟩ : ∃ L, Dec.endLL M.d = L := ⟨_, rfl⟩
      have hfk : q = (Mch.bare 0, L) := by rw [← hq.out, ← hL]; unfold Mch.endK; rw [if_pos h0, h0]; rfl
      have hfd := fun W' => Tq.rend_any ⟨M.d.toArray⟩ M.d (by simp) hsm.out.d W'
      rw [hL] at hfd
      unfold Tq.IntsRes at hfd
      replace hfd := Lib.hid hfd
      clear hq
      subst hfk
      rw [h0] at x4 t4
      clear e4
      replace hL := Lib.hid hL
      go_wp2_with fail
      replace h0 := Lib.hid h0
      refine wp_region_held_drew (S := fun w' => w'.cell? ⟨kt, 0, none⟩ = some (.int .i64 0) ∧ w'.cell? ⟨kt, 1, none⟩ = some (.string ⟨#[]⟩) ∧ w'.cell? ⟨kt, 2, none⟩ = some (.slice none 0 0) ∧ w'.cell? ⟨kt, 3, none⟩ = some (.slice none 0 0) ∧ w'.cell? ⟨kt, 4, none⟩ = some (.bool false) ∧ w'.cell? ⟨kt, 5, none⟩ = some (.int .i64 0) ∧ w'.cell? ⟨kt, 6, none⟩ = some (.bool false) ∧ w'.cell? ⟨kt, 7, none⟩ = some (.bool false) ∧ w'.cell? ⟨kt, 8, none⟩ = some (.slice none 0 0) ∧ w'.cell? ⟨w.heap.size, 1, none⟩ = some (.string ⟨M.d.toArray⟩)) (by kernel_rfl) (⟨blk_cell t4.out 0 _ rfl, blk_cell t4.out 1 _ rfl, blk_cell t4.out 2 _ rfl, blk_cell t4.out 3 _ rfl, blk_cell t4.out 4 _ rfl, blk_cell t4.out 5 _ rfl, blk_cell t4.out 6 _ rfl, blk_cell t4.out 7 _ rfl, blk_cell t4.out 8 _ rfl, blk_cell x4.out 1 _ rfl⟩) (fun hS => ?_)
      refine' wpAnyH_take (i := 0) (oi := ⟨_, _, _, _, _, _⟩) (v := _) rfl (by kernel_rfl) (by kernel_rfl) (by kernel_rfl) (fun _ _ _ h => h) (Or.inl ⟨by rfl, ?hyk00⟩) hS ?restk00
      case hyk00 => (intro wz hSw; (try dsimp only at hSw); go_simp; try with_reducible rfl)
      try simp only [Act.put, List.setIfInBounds_toArray, List.set_cons_zero, List.set_cons_succ]
      refine' wpAnyH_take (i := 1) (oi := ⟨_, _, _, _, _, _⟩) (v := _) rfl (by kernel_rfl) (by kernel_rfl) (by kernel_rfl) (fun _ _ _ h => h) (Or.inl ⟨by rfl, ?hyk01⟩) hS ?restk01
      case hyk01 => (intro wz hSw; (try dsimp only at hSw); go_simp; try with_reducible rfl)
      try simp only [Act.put, List.setIfInBounds_toArray, List.set_cons_zero, List.set_cons_succ]
      refine' wpAnyH_take (i := 2) (oi := ⟨_, _, _, _, _, _⟩) (v := _) rfl (by kernel_rfl) (by kernel_rfl) (by kernel_rfl) (fun _ _ _ h => h) (Or.inl ⟨by rfl, ?hyk02⟩) hS ?restk02
      case hyk02 => (intro wz hSw; (try dsimp only at hSw); go_simp; try with_reducible rfl)
      try simp only [Act.put, List.setIfInBounds_toArray, List.set_cons_zero, List.set_cons_succ]
      refine wpAnyH_ready (rs := [3]) (by kernel_rfl) (by simp) (AllReadyH.cons rfl (fun K hK => ?_) AllReadyH.nil)
      go_simp
      go_at_call 44
      refine (hfd.out _).mono ?_
      rintro e w5 ⟨vt, rfl, ht, q5⟩
      replace ht := show OwnI _ vt L w5 from ht
      obtain ⟨pt, ct, rfl⟩ := ri_form (ri_of_own ht)
      have r5 := blk_below (w := w4.drew) r4.out q5
      have b5 := Lib.hid (below_on (show Below w.heap.size w w4.drew from b4.out.drew) q5)
      have u5 := Lib.hid (ownI_mono ht (show w.heap.size ≤ w4.drew.heap.size from b4.out.size))
      have x5 := Lib.hid (blk_below (w := w4.drew) x4.out q5)
      have t5 := Lib.hid (blk_below (w := w4.drew) t4.out q5)
      clear q5 ht
      go_wp2_with fail
      refine hK.out _ _ (⟨blk_cell t5.out 0 _ rfl, blk_cell t5.out 1 _ rfl, blk_cell t5.out 2 _ rfl, blk_cell t5.out 3 _ rfl, blk_cell t5.out 4 _ rfl, blk_cell t5.out 5 _ rfl, blk_cell t5.out 6 _ rfl, blk_cell t5.out 7 _ rfl, blk_cell t5.out 8 _ rfl, blk_cell x5.out 1 _ rfl⟩) (fun hSn => ?_)
      clear hS
      have hS := hSn
      clear hSn
      clear hK K
      try simp only [Act.put, List.setIfInBounds_toArray, List.set_cons_zero, List.set_cons_succ]
      obtain ⟨y0, y1, y2, y3, y4, y5, y6, y7, y8⟩ := held9 r5
      have fy0 := blk_thaw r5 0
      have fy1 := blk_thaw r5 1
      have fy2 := blk_thaw r5 2
      have fy3 := blk_thaw r5 3
      have fy4 := blk_thaw r5 4
      have fy5 := blk_thaw r5 5
      have fy6 := blk_thaw r5 6
      have fy7 := blk_thaw r5 7
      have fy8 := blk_thaw r5 8
      replace r5 := Lib.hid r5
      refine wpAnyH_ready (rs := [4]) (by kernel_rfl) (by simp) (AllReadyH.cons rfl (fun K hK => ?_) AllReadyH.nil)
      go_simp
      go_wp2_with fail
      refine hK.out _ _ (by have h := blk_but9 t5.out (show kt ≠ w.heap.size + 1 by have := hkt.out; omega) (.int .i64 0) (.string ⟨#[]⟩) (.slice none 0 0) (.slice none 0 0) (.bool false) (.int .i64 0) (.bool false) (.bool false) (.slice none 0 0); have h2 := blk_but9 x5.out (show w.heap.size ≠ w.heap.size + 1 by omega) (.int .i64 0) (.string ⟨#[]⟩) (.slice none 0 0) (.slice none 0 0) (.bool false) (.int .i64 0) (.bool false) (.bool false) (.slice none 0 0); unfold set9 at h h2; exact ⟨blk_cell h 0 _ rfl, blk_cell h 1 _ rfl, blk_cell h 2 _ rfl, blk_cell h 3 _ rfl, blk_cell h 4 _ rfl, blk_cell h 5 _ rfl, blk_cell h 6 _ rfl, blk_cell h 7 _ rfl, blk_cell h 8 _ rfl, blk_cell h2 1 _ rfl⟩) (fun hSn => ?_)
      clear hS
      have hS := hSn
      clear hSn
      clear hK K
      try simp only [Act.put, List.setIfInBounds_toArray, List.set_cons_zero, List.set_cons_succ]
      refine' wpAnyH_take (i := 5) (oi := ⟨_, _, _, _, _, _⟩) (v := _) rfl (by kernel_rfl) (by kernel_rfl) (by kernel_rfl) (fun _ _ _ h => h) (Or.inl ⟨by rfl, ?hyk05⟩) hS ?restk05
      case hyk05 => (intro wz hSw; (try dsimp only at hSw); go_simp; try with_reducible rfl)
      try simp only [Act.put, List.setIfInBounds_toArray, List.set_cons_zero, List.set_cons_succ]
      refine wpAnyH_done (by kernel_rfl) ?_ _
      go_wp2_with fail
      have hfin := fed_done (v := mchV m (.slice pn m.n.length cn) (.slice pg m.g.length cg) (.slice pc m.c.length cc)) (q := (Mch.bare 0, L)) r5.out (Nat.le_succ w.heap.size) (ownI_nil _ _) (ownI_nil _ _) (ownI_nil _ _) u5.out b5.out
      unfold set9 strV at hfin
      have r5' := r5.out
      have n9 := blk_set9 r5' (.int .i64 0) (.string ⟨#[]⟩) (.slice none 0 0) (.slice none 0 0) (.bool false) (.int .i64 0) (.bool false) (.bool false) (.slice none 0 0)
      unfold set9 at n9
      obtain ⟨z0, z1, z2, z3, z4, z5, z6, z7, z8⟩ := held9 n9
      refine bodyPost_ret (v := .tuple #[.agg #[(.int .i64 0), (.string ⟨#[]⟩), (.slice none 0 0), (.slice none 0 0), (.bool false), (.int .i64 0), (.bool false), (.bool false), (.slice none 0 0)], .slice pt (L).length ct]) ?_ rfl ?_
      · simp [results, Tryz.results14, go_sem, z0, z1, z2, z3, z4, z5, z6, z7, z8]
      · exact hfin
    · skip
      obtain ⟨L, hL⟩ : ∃ L, Nor.endI M.n = L := ⟨_, rfl⟩
      have hfk : q = (Mch.bare 1, L) := by rw [← hq.out, ← hL]; unfold Mch.endK; rw [if_neg (by omega), if_pos (by omega), h0]; rfl
      have hfd := fun W' (h : RI W' (.slice pn' M.n.length cn') M.n) => rend9_any _ M.n W' (by have := hsm.out.n; omega) h
      rw [hL] at hfd
      unfold Makes at hfd
      replace hfd := Lib.hid hfd
      clear hq
      subst hfk
      rw [h0] at x4 t4
      clear e4
      replace hL := Lib.hid hL
      go_wp2_with fail
      replace h0 := Lib.hid h0
      refine wp_region_held_drew (S := fun w' => w'.cell? ⟨kt, 0, none⟩ = some (.int .i64 1) ∧ w'.cell? ⟨kt, 1, none⟩ = some (.string ⟨#[]⟩) ∧ w'.cell? ⟨kt, 2, none⟩ = some (.slice none 0 0) ∧ w'.cell? ⟨kt, 3, none⟩ = some (.slice none 0 0) ∧ w'.cell? ⟨kt, 4, none⟩ = some (.bool false) ∧ w'.cell? ⟨kt, 5, none⟩ = some (.int .i64 0) ∧ w'.cell? ⟨kt, 6, none⟩ = some (.bool false) ∧ w'.cell? ⟨kt, 7, none⟩ = some (.bool false) ∧ w'.cell? ⟨kt, 8, none⟩ = some (.slice none 0 0) ∧ w'.cell? ⟨w.heap.size, 2, none⟩ = some (.slice pn' M.n.length cn')) (by kernel_rfl) (⟨blk_cell t4.out 0 _ rfl, blk_cell t4.out 1 _ rfl, blk_cell t4.out 2 _ rfl, blk_cell t4.out 3 _ rfl, blk_cell t4.out 4 _ rfl, blk_cell t4.out 5 _ rfl, blk_cell t4.out 6 _ rfl, blk_cell t4.out 7 _ rfl, blk_cell t4.out 8 _ rfl, blk_cell x4.out 2 _ rfl⟩) (fun hS => ?_)
      refine' wpAnyH_take (i := 0) (oi := ⟨_, _, _, _, _, _⟩) (v := _) rfl (by kernel_rfl) (by kernel_rfl) (by kernel_rfl) (fun _ _ _ h => h) (Or.inl ⟨by rfl, ?hyk10⟩) hS ?restk10
      case hyk10 => (intro wz hSw; (try dsimp only at hSw); go_simp; try with_reducible rfl)
      try simp only [Act.put, List.setIfInBounds_toArray, List.set_cons_zero, List.set_cons_succ]
      refine' wpAnyH_take (i := 1) (oi := ⟨_, _, _, _, _, _⟩) (v := _) rfl (by kernel_rfl) (by kernel_rfl) (by kernel_rfl) (fun _ _ _ h => h) (Or.inl ⟨by rfl, ?hyk11⟩) hS ?restk11
      case hyk11 => (intro wz hSw; (try dsimp only at hSw); go_simp; try with_reducible rfl)
      try simp only [Act.put, List.setIfInBounds_toArray, List.set_cons_zero, List.set_cons_succ]
      refine' wpAnyH_take (i := 2) (oi := ⟨_, _, _, _, _, _⟩) (v := _) rfl (by kernel_rfl) (by kernel_rfl) (by kernel_rfl) (fun _ _ _ h => h) (Or.inl ⟨by rfl, ?hyk12⟩) hS ?restk12
      case hyk12 => (intro wz hSw; (try dsimp only at hSw); go_simp; try with_reducible rfl)
      try simp only [Act.put, List.setIfInBounds_toArray, List.set_cons_zero, List.set_cons_succ]
      refine wpAnyH_ready (rs := [3]) (by kernel_rfl) (by simp) (AllReadyH.cons rfl (fun K hK => ?_) AllReadyH.nil)
      go_simp
      go_at_call 45
      refine (hfd.out _ (ri_drew n4.out)).mono ?_
      rintro e w5 ⟨vt, rfl, ht, q5⟩
      obtain ⟨pt, ct, rfl⟩ := ri_form (ri_of_own ht)
      have r5 := blk_below (w := w4.drew) r4.out q5
      have b5 := Lib.hid (below_on (show Below w.heap.size w w4.drew from b4.out.drew) q5)
      have u5 := Lib.hid (ownI_mono ht (show w.heap.size ≤ w4.drew.heap.size from b4.out.size))
      have x5 := Lib.hid (blk_below (w := w4.drew) x4.out q5)
      have t5 := Lib.hid (blk_below (w := w4.drew) t4.out q5)
      clear q5 ht
      go_wp2_with fail
      refine hK.out _ _ (⟨blk_cell t5.out 0 _ rfl, blk_cell t5.out 1 _ rfl, blk_cell t5.out 2 _ rfl, blk_cell t5.out 3 _ rfl, blk_cell t5.out 4 _ rfl, blk_cell t5.out 5 _ rfl, blk_cell t5.out 6 _ rfl, blk_cell t5.out 7 _ rfl, blk_cell t5.out 8 _ rfl, blk_cell x5.out 2 _ rfl⟩) (fun hSn => ?_)
      clear hS
      have hS := hSn
      clear hSn
      clear hK K
      try simp only [Act.put, List.setIfInBounds_toArray, List.set_cons_zero, List.set_cons_succ]
      obtain ⟨y0, y1, y2, y3, y4, y5, y6, y7, y8⟩ := held9 r5
      have fy0 := blk_thaw r5 0
      have fy1 := blk_thaw r5 1
      have fy2 := blk_thaw r5 2
      have fy3 := blk_thaw r5 3
      have fy4 := blk_thaw r5 4
      have fy5 := blk_thaw r5 5
      have fy6 := blk_thaw r5 6
      have fy7 := blk_thaw r5 7
      have fy8 := blk_thaw r5 8
      replace r5 := Lib.hid r5
      refine wpAnyH_ready (rs := [4]) (by kernel_rfl) (by simp) (AllReadyH.cons rfl (fun K hK => ?_) AllReadyH.nil)
      go_simp
      go_wp2_with fail
      refine hK.out _ _ (by have h := blk_but9 t5.out (show kt ≠ w.heap.size + 1 by have := hkt.out; omega) (.int .i64 1) (.string ⟨#[]⟩) (.slice none 0 0) (.slice none 0 0) (.bool false) (.int .i64 0) (.bool false) (.bool false) (.slice none 0 0); have h2 := blk_but9 x5.out (show w.heap.size ≠ w.heap.size + 1 by omega) (.int .i64 1) (.string ⟨#[]⟩) (.slice none 0 0) (.slice none 0 0) (.bool false) (.int .i64 0) (.bool false) (.bool false) (.slice none 0 0); unfold set9 at h h2; exact ⟨blk_cell h 0 _ rfl, blk_cell h 1 _ rfl, blk_cell h 2 _ rfl, blk_cell h 3 _ rfl, blk_cell h 4 _ rfl, blk_cell h 5 _ rfl, blk_cell h 6 _ rfl, blk_cell h 7 _ rfl, blk_cell h 8 _ rfl, blk_cell h2 2 _ rfl⟩) (fun hSn => ?_)
      clear hS
      have hS := hSn
      clear hSn
      clear hK K
      try simp only [Act.put, List.setIfInBounds_toArray, List.set_cons_zero, List.set_cons_succ]
      refine' wpAnyH_take (i := 5) (oi := ⟨_, _, _, _, _, _⟩) (v := _) rfl (by kernel_rfl) (by kernel_rfl) (by kernel_rfl) (fun _ _ _ h => h) (Or.inl ⟨by rfl, ?hyk15⟩) hS ?restk15
      case hyk15 => (intro wz hSw; (try dsimp only at hSw); go_simp; try with_reducible rfl)
      try simp only [Act.put, List.setIfInBounds_toArray, List.set_cons_zero, List.set_cons_succ]
      refine wpAnyH_done (by kernel_rfl) ?_ _
      go_wp2_with fail
      have hfin := fed_done (v := mchV m (.slice pn m.n.length cn) (.slice pg m.g.length cg) (.slice pc m.c.length cc)) (q := (Mch.bare 1, L)) r5.out (Nat.le_succ w.heap.size) (ownI_nil _ _) (ownI_nil _ _) (ownI_nil _ _) u5.out b5.out
      unfold set9 strV at hfin
      have r5' := r5.out
      have n9 := blk_set9 r5' (.int .i64 1) (.string ⟨#[]⟩) (.slice none 0 0) (.slice none 0 0) (.bool false) (.int .i64 0) (.bool false) (.bool false) (.slice none 0 0)
      unfold set9 at n9
      obtain ⟨z0, z1, z2, z3, z4, z5, z6, z7, z8⟩ := held9 n9
      refine bodyPost_ret (v := .tuple #[.agg #[(.int .i64 1), (.string ⟨#[]⟩), (.slice none 0 0), (.slice none 0 0), (.bool false), (.int .i64 0), (.bool false), (.bool false), (.slice none 0 0)], .slice pt (L).length ct]) ?_ rfl ?_
      · simp [results, Tryz.results14, go_sem, z0, z1, z2, z3, z4, z5, z6, z7, z8]
      · exact hfin
    · skip
      obtain ⟨L, hL⟩ : ∃ L, Nor.endI M.n = L := ⟨_, rfl⟩
      have hfk : q = (Mch.bare 2, L) := by rw [← hq.out, ← hL]; unfold Mch.endK; rw [if_neg (by omega), if_pos (by omega), h0]; rfl
      have hfd := fun W' (h : RI W' (.slice pn' M.n.length cn') M.n) => rend9_any _ M.n W' (by have := hsm.out.n; omega) h
      rw [hL] at hfd
      unfold Makes at hfd
      replace hfd := Lib.hid hfd
      clear hq
      subst hfk
      rw [h0] at x4 t4
      clear e4
      replace hL := Lib.hid hL
      go_wp2_with fail
      replace h0 := Lib.hid h0
      refine wp_region_held_drew (S := fun w' => w'.cell? ⟨kt, 0, none⟩ = some (.int .i64 2) ∧ w'.cell? ⟨kt, 1, none⟩ = some (.string ⟨#[]⟩) ∧ w'.cell? ⟨kt, 2, none⟩ = some (.slice none 0 0) ∧ w'.cell? ⟨kt, 3, none⟩ = some (.slice none 0 0) ∧ w'.cell? ⟨kt, 4, none⟩ = some (.bool false) ∧ w'.cell? ⟨kt, 5, none⟩ = some (.int .i64 0) ∧ w'.cell? ⟨kt, 6, none⟩ = some (.bool false) ∧ w'.cell? ⟨kt, 7, none⟩ = some (.bool false) ∧ w'.cell? ⟨kt, 8, none⟩ = some (.slice none 0 0) ∧ w'.cell? ⟨w.heap.size, 2, none⟩ = some (.slice pn' M.n.length cn')) (by kernel_rfl) (⟨blk_cell t4.out 0 _ rfl, blk_cell t4.out 1 _ rfl, blk_cell t4.out 2 _ rfl, blk_cell t4.out 3 _ rfl, blk_cell t4.out 4 _ rfl, blk_cell t4.out 5 _ rfl, blk_cell t4.out 6 _ rfl, blk_cell t4.out 7 _ rfl, blk_cell t4.out 8 _ rfl, blk_cell x4.out 2 _ rfl⟩) (fun hS => ?_)
      refine' wpAnyH_take (i := 0) (oi := ⟨_, _, _, _, _, _⟩) (v := _) rfl (by kernel_rfl) (by kernel_rfl) (by kernel_rfl) (fun _ _ _ h => h) (Or.inl ⟨by rfl, ?hyk20⟩) hS ?restk20
      case hyk20 => (intro wz hSw; (try dsimp only at hSw); go_simp; try with_reducible rfl)
      try simp only [Act.put, List.setIfInBounds_toArray, List.set_cons_zero, List.set_cons_succ]
      refine' wpAnyH_take (i := 1) (oi := ⟨_, _, _, _, _, _⟩) (v := _) rfl (by kernel_rfl) (by kernel_rfl) (by kernel_rfl) (fun _ _ _ h => h) (Or.inl ⟨by rfl, ?hyk21⟩) hS ?restk21
      case hyk21 => (intro wz hSw; (try dsimp only at hSw); go_simp; try with_reducible rfl)
      try simp only [Act.put, List.setIfInBounds_toArray, List.set_cons_zero, List.set_cons_succ]
      refine' wpAnyH_take (i := 2) (oi := ⟨_, _, _, _, _, _⟩) (v := _) rfl (by kernel_rfl) (by kernel_rfl) (by kernel_rfl) (fun _ _ _ h => h) (Or.inl ⟨by rfl, ?hyk22⟩) hS ?restk22
      case hyk22 => (intro wz hSw; (try dsimp only at hSw); go_simp; try with_reducible rfl)
      try simp only [Act.put, List.setIfInBounds_toArray, List.set_cons_zero, List.set_cons_succ]
      refine wpAnyH_ready (rs := [3]) (by kernel_rfl) (by simp) (AllReadyH.cons rfl (fun K hK => ?_) AllReadyH.nil)
      go_simp
      go_at_call 45
      refine (hfd.out _ (ri_drew n4.out)).mono ?_
      rintro e w5 ⟨vt, rfl, ht, q5⟩
      obtain ⟨pt, ct, rfl⟩ := ri_form (ri_of_own ht)
      have r5 := blk_below (w := w4.drew) r4.out q5
      have b5 := Lib.hid (below_on (show Below w.heap.size w w4.drew from b4.out.drew) q5)
      have u5 := Lib.hid (ownI_mono ht (show w.heap.size ≤ w4.drew.heap.size from b4.out.size))
      have x5 := Lib.hid (blk_below (w := w4.drew) x4.out q5)
      have t5 := Lib.hid (blk_below (w := w4.drew) t4.out q5)
      clear q5 ht
      go_wp2_with fail
      refine hK.out _ _ (⟨blk_cell t5.out 0 _ rfl, blk_cell t5.out 1 _ rfl, blk_cell t5.out 2 _ rfl, blk_cell t5.out 3 _ rfl, blk_cell t5.out 4 _ rfl, blk_cell t5.out 5 _ rfl, blk_cell t5.out 6 _ rfl, blk_cell t5.out 7 _ rfl, blk_cell t5.out 8 _ rfl, blk_cell x5.out 2 _ rfl⟩) (fun hSn => ?_)
      clear hS
      have hS := hSn
      clear hSn
      clear hK K
      try simp only [Act.put, List.setIfInBounds_toArray, List.set_cons_zero, List.set_cons_succ]
      obtain ⟨y0, y1, y2, y3, y4, y5, y6, y7, y8⟩ := held9 r5
      have fy0 := blk_thaw r5 0
      have fy1 := blk_thaw r5 1
      have fy2 := blk_thaw r5 2
      have fy3 := blk_thaw r5 3
      have fy4 := blk_thaw r5 4
      have fy5 := blk_thaw r5 5
      have fy6 := blk_thaw r5 6
      have fy7 := blk_thaw r5 7
      have fy8 := blk_thaw r5 8
      replace r5 := Lib.hid r5
      refine wpAnyH_ready (rs := [4]) (by kernel_rfl) (by simp) (AllReadyH.cons rfl (fun K hK => ?_) AllReadyH.nil)
      go_simp
      go_wp2_with fail
      refine hK.out _ _ (by have h := blk_but9 t5.out (show kt ≠ w.heap.size + 1 by have := hkt.out; omega) (.int .i64 2) (.string ⟨#[]⟩) (.slice none 0 0) (.slice none 0 0) (.bool false) (.int .i64 0) (.bool false) (.bool false) (.slice none 0 0); have h2 := blk_but9 x5.out (show w.heap.size ≠ w.heap.size + 1 by omega) (.int .i64 2) (.string ⟨#[]⟩) (.slice none 0 0) (.slice none 0 0) (.bool false) (.int .i64 0) (.bool false) (.bool false) (.slice none 0 0); unfold set9 at h h2; exact ⟨blk_cell h 0 _ rfl, blk_cell h 1 _ rfl, blk_cell h 2 _ rfl, blk_cell h 3 _ rfl, blk_cell h 4 _ rfl, blk_cell h 5 _ rfl, blk_cell h 6 _ rfl, blk_cell h 7 _ rfl, blk_cell h 8 _ rfl, blk_cell h2 2 _ rfl⟩) (fun hSn => ?_)
      clear hS
      have hS := hSn
      clear hSn
      clear hK K
      try simp only [Act.put, List.setIfInBounds_toArray, List.set_cons_zero, List.set_cons_succ]
      refine' wpAnyH_take (i := 5) (oi := ⟨_, _, _, _, _, _⟩) (v := _) rfl (by kernel_rfl) (by kernel_rfl) (by kernel_rfl) (fun _ _ _ h => h) (Or.inl ⟨by rfl, ?hyk25⟩) hS ?restk25
      case hyk25 => (intro wz hSw; (try dsimp only at hSw); go_simp; try with_reducible rfl)
      try simp only [Act.put, List.setIfInBounds_toArray, List.set_cons_zero, List.set_cons_succ]
      refine wpAnyH_done (by kernel_rfl) ?_ _
      go_wp2_with fail
      have hfin := fed_done (v := mchV m (.slice pn m.n.length cn) (.slice pg m.g.length cg) (.slice pc m.c.length cc)) (q := (Mch.bare 2, L)) r5.out (Nat.le_succ w.heap.size) (ownI_nil _ _) (ownI_nil _ _) (ownI_nil _ _) u5.out b5.out
      unfold set9 strV at hfin
      have r5' := r5.out
      have n9 := blk_set9 r5' (.int .i64 2) (.string ⟨#[]⟩) (.slice none 0 0) (.slice none 0 0) (.bool false) (.int .i64 0) (.bool false) (.bool false) (.slice none 0 0)
      unfold set9 at n9
      obtain ⟨z0, z1, z2, z3, z4, z5, z6, z7, z8⟩ := held9 n9
      refine bodyPost_ret (v := .tuple #[.agg #[(.int .i64 2), (.string ⟨#[]⟩), (.slice none 0 0), (.slice none 0 0), (.bool false), (.int .i64 0), (.bool false), (.bool false), (.slice none 0 0)], .slice pt (L).length ct]) ?_ rfl ?_
      · simp [results, Tryz.results14, go_sem, z0, z1, z2, z3, z4, z5, z6, z7, z8]
      · exact hfin
    · obtain ⟨L, hL⟩ : ∃ L, Mch.cutOf M.g = L := ⟨_, rfl⟩
      have hfk : q = (Mch.bare 3, L) := by
        rw [← hq.out, ← hL]
        unfold Mch.endK Sgm.endI
        rw [if_neg (by omega), if_neg (by omega), if_pos h0, if_pos hsn.out.g, h0]
        rfl
      have hfd := fun W' (h : RI W' (.slice pg' M.g.length cg') M.g) => rend12_any _ M.g M.s W' (by have := hsm.out.g; omega) h
      rw [if_pos hsn.out.g] at hfd
      unfold sgV at hfd
      replace hfd := Lib.hid hfd
      have hcu := fun W' h => rcut15_any (.slice pg' M.g.length cg') M.g W' hsm.out.g h
      rw [hL] at hcu
      unfold Makes at hcu
      replace hcu := Lib.hid hcu
      clear hq
      subst hfk
      rw [h0] at x4 t4
      clear e4
      replace hL := Lib.hid hL
      go_wp2_with fail
      replace h0 := Lib.hid h0
      refine wp_region_held_drew (S := fun w' => w'.cell? ⟨kt, 0, none⟩ = some (.int .i64 3) ∧ w'.cell? ⟨kt, 1, none⟩ = some (.string ⟨#[]⟩) ∧ w'.cell? ⟨kt, 2, none⟩ = some (.slice none 0 0) ∧ w'.cell? ⟨kt, 3, none⟩ = some (.slice none 0 0) ∧ w'.cell? ⟨kt, 4, none⟩ = some (.bool false) ∧ w'.cell? ⟨kt, 5, none⟩ = some (.int .i64 0) ∧ w'.cell? ⟨kt, 6, none⟩ = some (.bool false) ∧ w'.cell? ⟨kt, 7, none⟩ = some (.bool false) ∧ w'.cell? ⟨kt, 8, none⟩ = some (.slice none 0 0) ∧ w'.cell? ⟨w.heap.size, 3, none⟩ = some (.slice pg' M.g.length cg') ∧ w'.cell? ⟨w.heap.size, 4, none⟩ = some (.bool M.s.on) ∧ w'.cell? ⟨w.heap.size, 5, none⟩ = some (.int .i64 M.s.kind) ∧ w'.cell? ⟨w.heap.size, 6, none⟩ = some (.bool M.s.pict) ∧ w'.cell? ⟨w.heap.size, 7, none⟩ = some (.bool M.s.odd)) (by kernel_rfl) (⟨blk_cell t4.out 0 _ rfl, blk_cell t4.out 1 _ rfl, blk_cell t4.out 2 _ rfl, blk_cell t4.out 3 _ rfl, blk_cell t4.out 4 _ rfl, blk_cell t4.out 5 _ rfl, blk_cell t4.out 6 _ rfl, blk_cell t4.out 7 _ rfl, blk_cell t4.out 8 _ rfl, blk_cell x4.out 3 _ rfl, blk_cell x4.out 4 _ rfl, blk_cell x4.out 5 _ rfl, blk_cell x4.out 6 _ rfl, blk_cell x4.out 7 _ rfl⟩) (fun hS => ?_)
      refine' wpAnyH_take (i := 0) (oi := ⟨_, _, _, _, _, _⟩) (v := _) rfl (by kernel_rfl) (by kernel_rfl) (by kernel_rfl) (fun _ _ _ h => h) (Or.inl ⟨by rfl, ?hyk30⟩) hS ?restk30
      case hyk30 => (intro wz hSw; (try dsimp only at hSw); go_simp; try with_reducible rfl)
      try simp only [Act.put, List.setIfInBounds_toArray, List.set_cons_zero, List.set_cons_succ]
      refine' wpAnyH_take (i := 1) (oi := ⟨_, _, _, _, _, _⟩) (v := _) rfl (by kernel_rfl) (by kernel_rfl) (by kernel_rfl) (fun _ _ _ h => h) (Or.inl ⟨by rfl, ?hyk31⟩) hS ?restk31
      case hyk31 => (intro wz hSw; (try dsimp only at hSw); go_simp; try with_reducible rfl)
      try simp only [Act.put, List.setIfInBounds_toArray, List.set_cons_zero, List.set_cons_succ]
      refine' wpAnyH_take (i := 2) (oi := ⟨_, _, _, _, _, _⟩) (v := _) rfl (by kernel_rfl) (by kernel_rfl) (by kernel_rfl) (fun _ _ _ h => h) (Or.inl ⟨by rfl, ?hyk32⟩) hS ?restk32
      case hyk32 => (intro wz hSw; (try dsimp only at hSw); go_simp; try with_reducible rfl)
      try simp only [Act.put, List.setIfInBounds_toArray, List.set_cons_zero, List.set_cons_succ]
      refine wpAnyH_ready (rs := [3]) (by kernel_rfl) (by simp) (AllReadyH.cons rfl (fun K hK => ?_) AllReadyH.nil)
      go_simp
      go_at_call 46
      refine (hfd.out _ (ri_drew g4.out)).mono ?_
      rintro e w6 ⟨rfl, q6⟩
      have t6 := Lib.hid (blk_below (w := w4.drew) t4.out q6)
      have x6 := Lib.hid (blk_below (w := w4.drew) x4.out q6)
      have r6 := Lib.hid (blk_below (w := w4.drew) r4.out q6)
      have b6 := Lib.hid (below_on (show Below w.heap.size w w4.drew from b4.out.drew) q6)
      have g6 := Lib.hid (ri_below (ri_drew g4.out) q6)
      clear q6
      go_wp2_with fail
      refine hK.out _ _ (⟨blk_cell t6.out 0 _ rfl, blk_cell t6.out 1 _ rfl, blk_cell t6.out 2 _ rfl, blk_cell t6.out 3 _ rfl, blk_cell t6.out 4 _ rfl, blk_cell t6.out 5 _ rfl, blk_cell t6.out 6 _ rfl, blk_cell t6.out 7 _ rfl, blk_cell t6.out 8 _ rfl, blk_cell x6.out 3 _ rfl, blk_cell x6.out 4 _ rfl, blk_cell x6.out 5 _ rfl, blk_cell x6.out 6 _ rfl, blk_cell x6.out 7 _ rfl⟩) (fun hSn => ?_)
      clear hS
      have hS := hSn
      clear hSn
      clear hK K
      try simp only [Act.put, List.setIfInBounds_toArray, List.set_cons_zero, List.set_cons_succ]
      refine wpAnyH_ready (rs := [4]) (by kernel_rfl) (by simp) (AllReadyH.cons rfl (fun K hK => ?_) AllReadyH.nil)
      go_simp
      go_at_call 38
      refine (hcu.out _ g6.out).mono ?_
      rintro e w5 ⟨vt, rfl, ht, q5⟩
      obtain ⟨pt, ct, rfl⟩ := ri_form (ri_of_own ht)
      have r5 := blk_below r6.out q5
      have b5 := Lib.hid (below_on b6.out q5)
      have u5 := Lib.hid (ownI_mono ht b6.out.size)
      have x5 := Lib.hid (blk_below x6.out q5)
      have t5 := Lib.hid (blk_below t6.out q5)
      clear q5 ht
      go_wp2_with fail
      refine hK.out _ _ (⟨blk_cell t5.out 0 _ rfl, blk_cell t5.out 1 _ rfl, blk_cell t5.out 2 _ rfl, blk_cell t5.out 3 _ rfl, blk_cell t5.out 4 _ rfl, blk_cell t5.out 5 _ rfl, blk_cell t5.out 6 _ rfl, blk_cell t5.out 7 _ rfl, blk_cell t5.out 8 _ rfl, blk_cell x5.out 3 _ rfl, blk_cell x5.out 4 _ rfl, blk_cell x5.out 5 _ rfl, blk_cell x5.out 6 _ rfl, blk_cell x5.out 7 _ rfl⟩) (fun hSn => ?_)
      clear hS
      have hS := hSn
      clear hSn
      clear hK K
      try simp only [Act.put, List.setIfInBounds_toArray, List.set_cons_zero, List.set_cons_succ]
      obtain ⟨y0, y1, y2, y3, y4, y5, y6, y7, y8⟩ := held9 r5
      have fy0 := blk_thaw r5 0
      have fy1 := blk_thaw r5 1
      have fy2 := blk_thaw r5 2
      have fy3 := blk_thaw r5 3
      have fy4 := blk_thaw r5 4
      have fy5 := blk_thaw r5 5
      have fy6 := blk_thaw r5 6
      have fy7 := blk_thaw r5 7
      have fy8 := blk_thaw r5 8
      replace r5 := Lib.hid r5
      refine wpAnyH_ready (rs := [5]) (by kernel_rfl) (by simp) (AllReadyH.cons rfl (fun K hK => ?_) AllReadyH.nil)
      go_simp
      go_wp2_with fail
      refine hK.out _ _ (by have h := blk_but9 t5.out (show kt ≠ w.heap.size + 1 by have := hkt.out; omega) (.int .i64 3) (.string ⟨#[]⟩) (.slice none 0 0) (.slice none 0 0) (.bool false) (.int .i64 0) (.bool false) (.bool false) (.slice none 0 0); have h2 := blk_but9 x5.out (show w.heap.size ≠ w.heap.size + 1 by omega) (.int .i64 3) (.string ⟨#[]⟩) (.slice none 0 0) (.slice none 0 0) (.bool false) (.int .i64 0) (.bool false) (.bool false) (.slice none 0 0); unfold set9 at h h2; exact ⟨blk_cell h 0 _ rfl, blk_cell h 1 _ rfl, blk_cell h 2 _ rfl, blk_cell h 3 _ rfl, blk_cell h 4 _ rfl, blk_cell h 5 _ rfl, blk_cell h 6 _ rfl, blk_cell h 7 _ rfl, blk_cell h 8 _ rfl, blk_cell h2 3 _ rfl, blk_cell h2 4 _ rfl, blk_cell h2 5 _ rfl, blk_cell h2 6 _ rfl, blk_cell h2 7 _ rfl⟩) (fun hSn => ?_)
      clear hS
      have hS := hSn
      clear hSn
      clear hK K
      try simp only [Act.put, List.setIfInBounds_toArray, List.set_cons_zero, List.set_cons_succ]
      refine' wpAnyH_take (i := 6) (oi := ⟨_, _, _, _, _, _⟩) (v := _) rfl (by kernel_rfl) (by kernel_rfl) (by kernel_rfl) (fun _ _ _ h => h) (Or.inl ⟨by rfl, ?hyk36⟩) hS ?restk36
      case hyk36 => (intro wz hSw; (try dsimp only at hSw); go_simp; try with_reducible rfl)
      try simp only [Act.put, List.setIfInBounds_toArray, List.set_cons_zero, List.set_cons_succ]
      refine wpAnyH_done (by kernel_rfl) ?_ _
      go_wp2_with fail
      have hfin := fed_done (v := mchV m (.slice pn m.n.length cn) (.slice pg m.g.length cg) (.slice pc m.c.length cc)) (q := (Mch.bare 3, L)) r5.out (Nat.le_succ w.heap.size) (ownI_nil _ _) (ownI_nil _ _) (ownI_nil _ _) u5.out b5.out
      unfold set9 strV at hfin
      have r5' := r5.out
      have n9 := blk_set9 r5' (.int .i64 3) (.string ⟨#[]⟩) (.slice none 0 0) (.slice none 0 0) (.bool false) (.int .i64 0) (.bool false) (.bool false) (.slice none 0 0)
      unfold set9 at n9
      obtain ⟨z0, z1, z2, z3, z4, z5, z6, z7, z8⟩ := held9 n9
      refine bodyPost_ret (v := .tuple #[.agg #[(.int .i64 3), (.string ⟨#[]⟩), (.slice none 0 0), (.slice none 0 0), (.bool false), (.int .i64 0), (.bool false), (.bool false), (.slice none 0 0)], .slice pt (L).length ct]) ?_ rfl ?_
      · simp [results, Tryz.results14, go_sem, z0, z1, z2, z3, z4, z5, z6, z7, z8]
      · exact hfin
    · have hfk : q = (Mch.bare 4, []) := by
        rw [← hq.out]
        unfold Mch.endK
        rw [if_neg (by omega), if_neg (by omega), if_neg (by omega), h0]
        rfl
      clear hq
      subst hfk
      rw [h0] at x4 t4
      clear e4
      go_upto_region 12 with (fail)
      replace h0 := Lib.hid h0
      clear k0 k1 k2 k3 k4 k5 k6 k7 k8
      have t5 := t4.out
      have r5 := r4.out
      obtain ⟨k0, k1, k2, k3, k4, k5, k6, k7, k8⟩ := held9 t5
      obtain ⟨y0, y1, y2, y3, y4, y5, y6, y7, y8⟩ := held9 r5
      have fy0 := blk_thaw r5 0
      have fy1 := blk_thaw r5 1
      have fy2 := blk_thaw r5 2
      have fy3 := blk_thaw r5 3
      have fy4 := blk_thaw r5 4
      have fy5 := blk_thaw r5 5
      have fy6 := blk_thaw r5 6
      have fy7 := blk_thaw r5 7
      have fy8 := blk_thaw r5 8
      replace t5 := Lib.hid t5
      replace r5 := Lib.hid r5
      go_wp2_with fail
      have hfin := fed_done (v := mchV m (.slice pn m.n.length cn) (.slice pg m.g.length cg) (.slice pc m.c.length cc)) (q := (Mch.bare 4, [])) r5.out (Nat.le_succ w.heap.size) (ownI_nil _ _) (ownI_nil _ _) (ownI_nil _ _) (ownI_nil _ _) b4.out
      unfold set9 strV at hfin
      have r5' := r5.out
      have n9 := blk_set9 r5' (.int .i64 4) (.string ⟨#[]⟩) (.slice none 0 0) (.slice none 0 0) (.bool false) (.int .i64 0) (.bool false) (.bool false) (.slice none 0 0)
      unfold set9 at n9
      obtain ⟨z0, z1, z2, z3, z4, z5, z6, z7, z8⟩ := held9 n9
      refine bodyPost_ret (v := .tuple #[.agg #[(.int .i64 4), (.string ⟨#[]⟩), (.slice none 0 0), (.slice none 0 0), (.bool false), (.int .i64 0), (.bool false), (.bool false), (.slice none 0 0)], .slice none 0 0]) ?_ rfl ?_
      · simp [results, Tryz.results14, go_sem, z0, z1, z2, z3, z4, z5, z6, z7, z8]
      · exact hfin
end Go.Proofs.YtiidjkhkcckmkaaGreatDoor

/- Layer 15: the document's Cost, Same. -/
namespace Go.Proofs.YtiidjkhkcckmkaaGreatDoor
set_option linter.unusedSimpArgs false
set_option linter.unusedVariables false
open Go.RowKit Go.Lib
open Mch (MS)
set_option maxHeartbeats 6400000 in
set_option maxRecDepth 100000 in
theorem rcost15_any (v : Value) (m : MS) (w : World) (hs : Mch.Small m) (hv : RM w v m) : Calls Tryz.prog 23 #[v] w fun e w' => e = .returned (.int .i64 (Mch.costM m : Nat)) ∧ Below w.heap.size w w' := by
  have hv0 := hv
  obtain ⟨vn, vg, vc, rfl, hvn, hvg, hvc⟩ := hv
  obtain ⟨pn, cn, rfl⟩ := ri_form hvn
  obtain ⟨pg, cg, rfl⟩ := ri_form hvg
  obtain ⟨pc, cc, rfl⟩ := ri_form hvc
  have hb := below_new w (.cells #[.int .i64 m.kind, .string ⟨m.d.toArray⟩, .slice pn m.n.length cn, .slice pg m.g.length cg, .bool m.s.on, .int .i64 m.s.kind, .bool m.s.pict, .bool m.s.odd, .slice pc m.c.length cc] 32)
  have hx := blk_new w #[.int .i64 m.kind, .string ⟨m.d.toArray⟩, .slice pn m.n.length cn, .slice pg m.g.length cg, .bool m.s.on, .int .i64 m.s.kind, .bool m.s.pict, .bool m.s.odd, .slice pc m.c.length cc] 32
  obtain ⟨W, hW⟩ : ∃ W, w.alloc (.cells #[.int .i64 m.kind, .string ⟨m.d.toArray⟩, .slice pn m.n.length cn, .slice pg m.g.length cg, .bool m.s.on, .int .i64 m.s.kind, .bool m.s.pict, .bool m.s.odd, .slice pc m.c.length cc] 32) = W := ⟨_, rfl⟩
  rw [hW] at hb hx
  have hsane := rsane15_any _ m W hs (rm_below hv0 hb)
  unfold mchV strV at hsane ⊢
  have hsz : (⟨m.d.toArray⟩ : ByteArray).size = m.d.length := by show m.d.toArray.size = _; simp
  obtain ⟨l1, l2, l3, l4⟩ := hs
  unfold Mch.costM
  obtain ⟨b, hbm⟩ : ∃ b, Mch.saneM m = b := ⟨_, rfl⟩
  rw [hbm] at hsane ⊢
  replace hbm := Lib.hid hbm
  replace hsane := Lib.hid hsane
  replace hb := Lib.hid hb
  replace hx := Lib.hid hx
  replace hW := Lib.hid hW
  clear hvn hvg hvc hv0
  rcases b with _ | _
  all_goals
    go_enter Tryz.func23, Tryz.ntmps23
    go_upto_region 1 with (fail)
    rw [hW.out]
    obtain ⟨c0, c1, c2, c3, c4, c5, c6, c7, c8⟩ := held9 hx.out
    go_wp2_with (go_at_call 21; refine hsane.out.mono ?_; rintro e w1 ⟨rfl, q1⟩; have b1 := Lib.hid (below_on hb.out q1); have x1 := blk_below hx.out q1; clear c0 c1 c2 c3 c4 c5 c6 c7 c8; obtain ⟨c0, c1, c2, c3, c4, c5, c6, c7, c8⟩ := held9 x1; replace x1 := Lib.hid x1; clear q1)
    go_ret
    refine ⟨?_, b1.out⟩
  · rfl
  · show Ending.returned (.int .i64 ((m.d.length : Int) + (m.n.length : Int) + (m.g.length : Int) + (m.c.length : Int))) = _
    simp
set_option maxHeartbeats 6400000 in
set_option maxRecDepth 100000 in
theorem rsame15_self (va vb : Value) (m : MS) (w : World) (hs : Mch.Small m) (ha : RM w va m) (hb : RM w vb m) : Calls Tryz.prog 15 #[va, vb] w fun e w' => e = .returned (.bool true) ∧ Below w.heap.size w w' := by
  obtain ⟨an, ag, ac, rfl, han, hag, hac⟩ := ha
  obtain ⟨bn, bg, bc, rfl, hbn, hbg, hbc⟩ := hb
  have l1 := hs.n
  have l2 := hs.g
  have l3 := hs.c
  obtain ⟨p1, q1, rfl⟩ := ri_form han
  obtain ⟨p2, q2, rfl⟩ := ri_form hag
  obtain ⟨p3, q3, rfl⟩ := ri_form hac
  obtain ⟨p4, q4, rfl⟩ := ri_form hbn
  obtain ⟨p5, q5, rfl⟩ := ri_form hbg
  obtain ⟨p6, q6, rfl⟩ := ri_form hbc
  unfold mchV strV
  have bq := Lib.hid (Below.refl w.heap.size w)
  replace han := Lib.hid han
  replace hag := Lib.hid hag
  replace hac := Lib.hid hac
  replace hbn := Lib.hid hbn
  replace hbg := Lib.hid hbg
  replace hbc := Lib.hid hbc
  clear hs
  go_enter Tryz.func15, Tryz.ntmps15
  replace han := Lib.hid (ri_below han.out (below_new w (.cells #[.int .i64 m.kind, .string ⟨m.d.toArray⟩, .slice p1 m.n.length q1, .slice p2 m.g.length q2, .bool m.s.on, .int .i64 m.s.kind, .bool m.s.pict, .bool m.s.odd, .slice p3 m.c.length q3] 32)))
  replace hag := Lib.hid (ri_below hag.out (below_new w (.cells #[.int .i64 m.kind, .string ⟨m.d.toArray⟩, .slice p1 m.n.length q1, .slice p2 m.g.length q2, .bool m.s.on, .int .i64 m.s.kind, .bool m.s.pict, .bool m.s.odd, .slice p3 m.c.length q3] 32)))
  replace hac := Lib.hid (ri_below hac.out (below_new w (.cells #[.int .i64 m.kind, .string ⟨m.d.toArray⟩, .slice p1 m.n.length q1, .slice p2 m.g.length q2, .bool m.s.on, .int .i64 m.s.kind, .bool m.s.pict, .bool m.s.odd, .slice p3 m.c.length q3] 32)))
  replace hbn := Lib.hid (ri_below hbn.out (below_new w (.cells #[.int .i64 m.kind, .string ⟨m.d.toArray⟩, .slice p1 m.n.length q1, .slice p2 m.g.length q2, .bool m.s.on, .int .i64 m.s.kind, .bool m.s.pict, .bool m.s.odd, .slice p3 m.c.length q3] 32)))
  replace hbg := Lib.hid (ri_below hbg.out (below_new w (.cells #[.int .i64 m.kind, .string ⟨m.d.toArray⟩, .slice p1 m.n.length q1, .slice p2 m.g.length q2, .bool m.s.on, .int .i64 m.s.kind, .bool m.s.pict, .bool m.s.odd, .slice p3 m.c.length q3] 32)))
  replace hbc := Lib.hid (ri_below hbc.out (below_new w (.cells #[.int .i64 m.kind, .string ⟨m.d.toArray⟩, .slice p1 m.n.length q1, .slice p2 m.g.length q2, .bool m.s.on, .int .i64 m.s.kind, .bool m.s.pict, .bool m.s.odd, .slice p3 m.c.length q3] 32)))
  replace bq := Lib.hid (below_on bq.out (below_new w (.cells #[.int .i64 m.kind, .string ⟨m.d.toArray⟩, .slice p1 m.n.length q1, .slice p2 m.g.length q2, .bool m.s.on, .int .i64 m.s.kind, .bool m.s.pict, .bool m.s.odd, .slice p3 m.c.length q3] 32)))
  have xa := Lib.hid (blk_new w #[.int .i64 m.kind, .string ⟨m.d.toArray⟩, .slice p1 m.n.length q1, .slice p2 m.g.length q2, .bool m.s.on, .int .i64 m.s.kind, .bool m.s.pict, .bool m.s.odd, .slice p3 m.c.length q3] 32)
  replace han := Lib.hid (ri_below han.out (below_new (w.alloc (.cells #[.int .i64 m.kind, .string ⟨m.d.toArray⟩, .slice p1 m.n.length q1, .slice p2 m.g.length q2, .bool m.s.on, .int .i64 m.s.kind, .bool m.s.pict, .bool m.s.odd, .slice p3 m.c.length q3] 32)) (.cells #[.int .i64 m.kind, .string ⟨m.d.toArray⟩, .slice p4 m.n.length q4, .slice p5 m.g.length q5, .bool m.s.on, .int .i64 m.s.kind, .bool m.s.pict, .bool m.s.odd, .slice p6 m.c.length q6] 32)))
  replace hag := Lib.hid (ri_below hag.out (below_new (w.alloc (.cells #[.int .i64 m.kind, .string ⟨m.d.toArray⟩, .slice p1 m.n.length q1, .slice p2 m.g.length q2, .bool m.s.on, .int .i64 m.s.kind, .bool m.s.pict, .bool m.s.odd, .slice p3 m.c.length q3] 32)) (.cells #[.int .i64 m.kind, .string ⟨m.d.toArray⟩, .slice p4 m.n.length q4, .slice p5 m.g.length q5, .bool m.s.on, .int .i64 m.s.kind, .bool m.s.pict, .bool m.s.odd, .slice p6 m.c.length q6] 32)))
  replace hac := Lib.hid (ri_below hac.out (below_new (w.alloc (.cells #[.int .i64 m.kind, .string ⟨m.d.toArray⟩, .slice p1 m.n.length q1, .slice p2 m.g.length q2, .bool m.s.on, .int .i64 m.s.kind, .bool m.s.pict, .bool m.s.odd, .slice p3 m.c.length q3] 32)) (.cells #[.int .i64 m.kind, .string ⟨m.d.toArray⟩, .slice p4 m.n.length q4, .slice p5 m.g.length q5, .bool m.s.on, .int .i64 m.s.kind, .bool m.s.pict, .bool m.s.odd, .slice p6 m.c.length q6] 32)))
  replace hbn := Lib.hid (ri_below hbn.out (below_new (w.alloc (.cells #[.int .i64 m.kind, .string ⟨m.d.toArray⟩, .slice p1 m.n.length q1, .slice p2 m.g.length q2, .bool m.s.on, .int .i64 m.s.kind, .bool m.s.pict, .bool m.s.odd, .slice p3 m.c.length q3] 32)) (.cells #[.int .i64 m.kind, .string ⟨m.d.toArray⟩, .slice p4 m.n.length q4, .slice p5 m.g.length q5, .bool m.s.on, .int .i64 m.s.kind, .bool m.s.pict, .bool m.s.odd, .slice p6 m.c.length q6] 32)))
  replace hbg := Lib.hid (ri_below hbg.out (below_new (w.alloc (.cells #[.int .i64 m.kind, .string ⟨m.d.toArray⟩, .slice p1 m.n.length q1, .slice p2 m.g.length q2, .bool m.s.on, .int .i64 m.s.kind, .bool m.s.pict, .bool m.s.odd, .slice p3 m.c.length q3] 32)) (.cells #[.int .i64 m.kind, .string ⟨m.d.toArray⟩, .slice p4 m.n.length q4, .slice p5 m.g.length q5, .bool m.s.on, .int .i64 m.s.kind, .bool m.s.pict, .bool m.s.odd, .slice p6 m.c.length q6] 32)))
  replace hbc := Lib.hid (ri_below hbc.out (below_new (w.alloc (.cells #[.int .i64 m.kind, .string ⟨m.d.toArray⟩, .slice p1 m.n.length q1, .slice p2 m.g.length q2, .bool m.s.on, .int .i64 m.s.kind, .bool m.s.pict, .bool m.s.odd, .slice p3 m.c.length q3] 32)) (.cells #[.int .i64 m.kind, .string ⟨m.d.toArray⟩, .slice p4 m.n.length q4, .slice p5 m.g.length q5, .bool m.s.on, .int .i64 m.s.kind, .bool m.s.pict, .bool m.s.odd, .slice p6 m.c.length q6] 32)))
  replace xa := Lib.hid (blk_below xa.out (below_new (w.alloc (.cells #[.int .i64 m.kind, .string ⟨m.d.toArray⟩, .slice p1 m.n.length q1, .slice p2 m.g.length q2, .bool m.s.on, .int .i64 m.s.kind, .bool m.s.pict, .bool m.s.odd, .slice p3 m.c.length q3] 32)) (.cells #[.int .i64 m.kind, .string ⟨m.d.toArray⟩, .slice p4 m.n.length q4, .slice p5 m.g.length q5, .bool m.s.on, .int .i64 m.s.kind, .bool m.s.pict, .bool m.s.odd, .slice p6 m.c.length q6] 32)))
  replace bq := Lib.hid (below_on bq.out (below_new (w.alloc (.cells #[.int .i64 m.kind, .string ⟨m.d.toArray⟩, .slice p1 m.n.length q1, .slice p2 m.g.length q2, .bool m.s.on, .int .i64 m.s.kind, .bool m.s.pict, .bool m.s.odd, .slice p3 m.c.length q3] 32)) (.cells #[.int .i64 m.kind, .string ⟨m.d.toArray⟩, .slice p4 m.n.length q4, .slice p5 m.g.length q5, .bool m.s.on, .int .i64 m.s.kind, .bool m.s.pict, .bool m.s.odd, .slice p6 m.c.length q6] 32)))
  have xb := Lib.hid (blk_new (w.alloc (.cells #[.int .i64 m.kind, .string ⟨m.d.toArray⟩, .slice p1 m.n.length q1, .slice p2 m.g.length q2, .bool m.s.on, .int .i64 m.s.kind, .bool m.s.pict, .bool m.s.odd, .slice p3 m.c.length q3] 32)) #[.int .i64 m.kind, .string ⟨m.d.toArray⟩, .slice p4 m.n.length q4, .slice p5 m.g.length q5, .bool m.s.on, .int .i64 m.s.kind, .bool m.s.pict, .bool m.s.odd, .slice p6 m.c.length q6] 32)
  rw [World.size_alloc] at xb
  have xa_0 := blk_cell xa.out 0 _ rfl
  have xa_1 := blk_cell xa.out 1 _ rfl
  have xa_2 := blk_cell xa.out 2 _ rfl
  have xa_3 := blk_cell xa.out 3 _ rfl
  have xa_4 := blk_cell xa.out 4 _ rfl
  have xa_5 := blk_cell xa.out 5 _ rfl
  have xa_6 := blk_cell xa.out 6 _ rfl
  have xa_7 := blk_cell xa.out 7 _ rfl
  have xa_8 := blk_cell xa.out 8 _ rfl
  have xb_0 := blk_cell xb.out 0 _ rfl
  have xb_1 := blk_cell xb.out 1 _ rfl
  have xb_2 := blk_cell xb.out 2 _ rfl
  have xb_3 := blk_cell xb.out 3 _ rfl
  have xb_4 := blk_cell xb.out 4 _ rfl
  have xb_5 := blk_cell xb.out 5 _ rfl
  have xb_6 := blk_cell xb.out 6 _ rfl
  have xb_7 := blk_cell xb.out 7 _ rfl
  have xb_8 := blk_cell xb.out 8 _ rfl
  go_wp2_with fail
  refine (same_self _ _ m.n ((w.alloc (.cells #[.int .i64 m.kind, .string ⟨m.d.toArray⟩, .slice p1 m.n.length q1, .slice p2 m.g.length q2, .bool m.s.on, .int .i64 m.s.kind, .bool m.s.pict, .bool m.s.odd, .slice p3 m.c.length q3] 32)).alloc (.cells #[.int .i64 m.kind, .string ⟨m.d.toArray⟩, .slice p4 m.n.length q4, .slice p5 m.g.length q5, .bool m.s.on, .int .i64 m.s.kind, .bool m.s.pict, .bool m.s.odd, .slice p6 m.c.length q6] 32)) (by omega) han.out hbn.out).mono ?_
  rintro e w2 ⟨rfl, q2⟩
  clear xa_0 xa_1 xa_2 xa_3 xa_4 xa_5 xa_6 xa_7 xa_8 xb_0 xb_1 xb_2 xb_3 xb_4 xb_5 xb_6 xb_7 xb_8
  replace han := Lib.hid (ri_below han.out q2)
  replace hag := Lib.hid (ri_below hag.out q2)
  replace hac := Lib.hid (ri_below hac.out q2)
  replace hbn := Lib.hid (ri_below hbn.out q2)
  replace hbg := Lib.hid (ri_below hbg.out q2)
  replace hbc := Lib.hid (ri_below hbc.out q2)
  replace xa := Lib.hid (blk_below xa.out q2)
  replace xb := Lib.hid (blk_below xb.out q2)
  replace bq := Lib.hid (below_on bq.out q2)
  clear q2
  have xa_0 := blk_cell xa.out 0 _ rfl
  have xa_1 := blk_cell xa.out 1 _ rfl
  have xa_2 := blk_cell xa.out 2 _ rfl
  have xa_3 := blk_cell xa.out 3 _ rfl
  have xa_4 := blk_cell xa.out 4 _ rfl
  have xa_5 := blk_cell xa.out 5 _ rfl
  have xa_6 := blk_cell xa.out 6 _ rfl
  have xa_7 := blk_cell xa.out 7 _ rfl
  have xa_8 := blk_cell xa.out 8 _ rfl
  have xb_0 := blk_cell xb.out 0 _ rfl
  have xb_1 := blk_cell xb.out 1 _ rfl
  have xb_2 := blk_cell xb.out 2 _ rfl
  have xb_3 := blk_cell xb.out 3 _ rfl
  have xb_4 := blk_cell xb.out 4 _ rfl
  have xb_5 := blk_cell xb.out 5 _ rfl
  have xb_6 := blk_cell xb.out 6 _ rfl
  have xb_7 := blk_cell xb.out 7 _ rfl
  have xb_8 := blk_cell xb.out 8 _ rfl
  go_wp2_with fail
  refine (same_self _ _ m.g w2 (by omega) hag.out hbg.out).mono ?_
  rintro e w3 ⟨rfl, q3⟩
  clear xa_0 xa_1 xa_2 xa_3 xa_4 xa_5 xa_6 xa_7 xa_8 xb_0 xb_1 xb_2 xb_3 xb_4 xb_5 xb_6 xb_7 xb_8
  replace han := Lib.hid (ri_below han.out q3)
  replace hag := Lib.hid (ri_below hag.out q3)
  replace hac := Lib.hid (ri_below hac.out q3)
  replace hbn := Lib.hid (ri_below hbn.out q3)
  replace hbg := Lib.hid (ri_below hbg.out q3)
  replace hbc := Lib.hid (ri_below hbc.out q3)
  replace xa := Lib.hid (blk_below xa.out q3)
  replace xb := Lib.hid (blk_below xb.out q3)
  replace bq := Lib.hid (below_on bq.out q3)
  clear q3
  have xa_0 := blk_cell xa.out 0 _ rfl
  have xa_1 := blk_cell xa.out 1 _ rfl
  have xa_2 := blk_cell xa.out 2 _ rfl
  have xa_3 := blk_cell xa.out 3 _ rfl
  have xa_4 := blk_cell xa.out 4 _ rfl
  have xa_5 := blk_cell xa.out 5 _ rfl
  have xa_6 := blk_cell xa.out 6 _ rfl
  have xa_7 := blk_cell xa.out 7 _ rfl
  have xa_8 := blk_cell xa.out 8 _ rfl
  have xb_0 := blk_cell xb.out 0 _ rfl
  have xb_1 := blk_cell xb.out 1 _ rfl
  have xb_2 := blk_cell xb.out 2 _ rfl
  have xb_3 := blk_cell xb.out 3 _ rfl
  have xb_4 := blk_cell xb.out 4 _ rfl
  have xb_5 := blk_cell xb.out 5 _ rfl
  have xb_6 := blk_cell xb.out 6 _ rfl
  have xb_7 := blk_cell xb.out 7 _ rfl
  have xb_8 := blk_cell xb.out 8 _ rfl
  go_wp2_with fail
  refine (same_self _ _ m.c w3 (by omega) hac.out hbc.out).mono ?_
  rintro e w4 ⟨rfl, q4⟩
  clear xa_0 xa_1 xa_2 xa_3 xa_4 xa_5 xa_6 xa_7 xa_8 xb_0 xb_1 xb_2 xb_3 xb_4 xb_5 xb_6 xb_7 xb_8
  replace han := Lib.hid (ri_below han.out q4)
  replace hag := Lib.hid (ri_below hag.out q4)
  replace hac := Lib.hid (ri_below hac.out q4)
  replace hbn := Lib.hid (ri_below hbn.out q4)
  replace hbg := Lib.hid (ri_below hbg.out q4)
  replace hbc := Lib.hid (ri_below hbc.out q4)
  replace xa := Lib.hid (blk_below xa.out q4)
  replace xb := Lib.hid (blk_below xb.out q4)
  replace bq := Lib.hid (below_on bq.out q4)
  clear q4
  go_wp2_with fail
  go_ret
  exact ⟨rfl, bq.out⟩
end Go.Proofs.YtiidjkhkcckmkaaGreatDoor

/- Layer 15: the document's All. -/
namespace Go.Proofs.YtiidjkhkcckmkaaGreatDoor
set_option linter.unusedSimpArgs false
set_option linter.unusedVariables false
open Go.RowKit Go.Lib
open Mch (MS)
set_option maxHeartbeats 25600000 in
set_option maxRecDepth 100000 in
theorem rall15_any (kind : Int) (va : Value) (a : List Int) (w : World) (hl : a.length ≤ 30000) (hra : RI w va a) (hwa : WfI a) :
    Calls Tryz.prog 25 #[.int .i64 kind, va] w (Told (Mch.allM kind a) w) := by
  obtain ⟨pa, ca, rfl⟩ := ri_form hra
  obtain ⟨i0, hi, hz0, hz1, hz2⟩ := info_parts info_i
  have hnew := Lib.hid (fun W => rnew15_any kind W)
  have hfeed := fun (l : List Int) (x : Int) (hx : I64 x) V W h => rfeed15_any V (Mch.feedsM (Mch.newM kind) l).1 x W (Mch.small_sane (Mch.feeds_sane kind l)) h hx
  have hend := fun V W h => rend15_any V (Mch.feedsM (Mch.newM kind) a).1 W (Mch.small_sane (Mch.feeds_sane kind a)) h
  have het := (Mch.end_told (Mch.feedsM (Mch.newM kind) a).1).1
  unfold Mch.allM
  obtain ⟨G, hG⟩ : ∃ G, Mch.feedsM (Mch.newM kind) = G := ⟨_, rfl⟩
  have hG0 : G [] = (Mch.newM kind, []) := by rw [← hG]; rfl
  have hG1 : ∀ l x, G (l ++ [x]) = ((Mch.feedM (G l).1 x).1, (G l).2 ++ (Mch.feedM (G l).1 x).2) := by rw [← hG]; exact Mch.feeds_snoc _
  rw [hG] at hfeed hend het ⊢
  have hnk : Mch.newM kind = Mch.bare (if 0 ≤ kind ∧ kind ≤ 4 then kind else 0) := rfl
  obtain ⟨nk, hnke⟩ : ∃ nk, (if 0 ≤ kind ∧ kind ≤ 4 then kind else 0) = nk := ⟨_, rfl⟩
  rw [hnke] at hnk hnew
  obtain ⟨EE, hEE⟩ : ∃ EE, (G a).2 ++ (Mch.endM (G a).1).2 = EE := ⟨_, rfl⟩
  rw [hEE]
  replace hfeed := Lib.hid hfeed
  replace hend := Lib.hid hend
  replace het := Lib.hid het
  replace hEE := Lib.hid hEE
  replace hG0 := Lib.hid hG0
  replace hG1 := Lib.hid hG1
  replace hnk := Lib.hid hnk
  replace hra := Lib.hid hra
  replace hwa := Lib.hid hwa
  clear hG hnke
  go_enter Tryz.func25, Tryz.ntmps25
  go_wp2_with fail
  refine (hnew.out _).mono ?_
  rintro e w2 ⟨rfl, q2⟩
  have hb2 := Lib.hid q2
  have st0 : Fed15 32 w2.heap.size w2 (G []) (.slice none 0 0) (w2.alloc (.cells (bare9 nk) 32)) := by
    rw [hG0.out, hnk.out]
    exact ⟨none, 0, none, 0, none, 0, blk_new _ _ _, ⟨nilV, nilV, nilV, rfl, .inl ⟨rfl, rfl⟩, .inl ⟨rfl, rfl⟩, .inl ⟨rfl, rfl⟩⟩, (offM_iff _ (Mch.bare nk) nilV nilV nilV).2 ⟨off_nil _, off_nil _, off_nil _⟩, (fun j e => by cases e), ownI_nil _ _, below_new w2 _⟩
  replace st0 := Lib.hid st0
  clear q2
  have hraW := Lib.hid (ri_below hra.out hb2.out)
  go_wp2_with fail
  go_loopg [5, 7] a.length (fun g vo vi wr => ∃ k : Nat, k ≤ a.length ∧ vi = .int .i64 k ∧ g = a.length - k ∧ (G (a.take k)).2.length ≤ 140 * k ∧ Fed15 32 w2.heap.size w2 (G (a.take k)) vo wr)
  case atStart => exact ⟨0, Nat.zero_le _, rfl, rfl, by rw [List.take_zero, hG0.out]; simp, by rw [List.take_zero]; exact st0.out⟩
  case round =>
    obtain ⟨k, hk, rfl, rfl, hol, pn', cn', pg', cg', pc', cc', hbox, hrm, hof, hap, hown, hbel⟩ := hrel
    by_cases hlt : k < a.length
    · have hlt' : (k : Int) < (a.length : Int) := by omega
      obtain ⟨b, off, rfl, hb, hcell⟩ := ri_at hraW.out (by omega)
      have hc : wr.cell? ⟨b, off + k, none⟩ = some (.int .i64 a[k]) := (hbel.cell hb).trans (hcell k hlt)
      have hx64 := hwa.out a[k] (List.getElem_mem hlt)
      have hfd := hfeed.out (a.take k) a[k] hx64
      have hsn := hG1.out (a.take k) a[k]
      rw [← List.take_succ_eq_append_getElem hlt] at hsn
      obtain ⟨x, hx⟩ : ∃ x, a[k] = x := ⟨_, rfl⟩
      rw [hx] at hc hfd hsn
      have hft := Mch.feed_told (G (a.take k)).1 x
      obtain ⟨q, hq⟩ : ∃ q, Mch.feedM (G (a.take k)).1 x = q := ⟨_, rfl⟩
      rw [hq] at hfd hsn hft
      obtain ⟨Q, hQ⟩ : ∃ Q, G (a.take k) = Q := ⟨_, rfl⟩
      rw [hQ] at hfd hsn hbox hrm hof hap hown hol
      obtain ⟨M, o⟩ := Q
      obtain ⟨q1, q2⟩ := q
      dsimp only at hfd hsn hbox hrm hof hap hown hol hft
      obtain ⟨S, hS⟩ : ∃ S : ByteArray, (⟨M.d.toArray⟩ : ByteArray) = S := ⟨_, rfl⟩
      rw [hS] at hbox hrm hof hap
      unfold cellsM at hbox hrm hof hap
      have hkA : w2.heap.size < wr.heap.size := blk_lt hbox
      have hkB : b < wr.heap.size := Nat.lt_of_lt_of_le hb hbel.size
      have H2 := Lib.hid (show wr.cell? ⟨w2.heap.size, 0, none⟩ = some (.int .i64 M.kind) ∧ wr.cell? ⟨w2.heap.size, 1, none⟩ = some (.string S) ∧ wr.cell? ⟨w2.heap.size, 2, none⟩ = some (.slice pn' M.n.length cn') ∧ wr.cell? ⟨w2.heap.size, 3, none⟩ = some (.slice pg' M.g.length cg') ∧ wr.cell? ⟨w2.heap.size, 4, none⟩ = some (.bool M.s.on) ∧ wr.cell? ⟨w2.heap.size, 5, none⟩ = some (.int .i64 M.s.kind) ∧ wr.cell? ⟨w2.heap.size, 6, none⟩ = some (.bool M.s.pict) ∧ wr.cell? ⟨w2.heap.size, 7, none⟩ = some (.bool M.s.odd) ∧ wr.cell? ⟨w2.heap.size, 8, none⟩ = some (.slice pc' M.c.length cc') ∧ wr.cell? ⟨b, off + k, none⟩ = some (.int .i64 x) from ⟨blk_cell hbox 0 _ rfl, blk_cell hbox 1 _ rfl, blk_cell hbox 2 _ rfl, blk_cell hbox 3 _ rfl, blk_cell hbox 4 _ rfl, blk_cell hbox 5 _ rfl, blk_cell hbox 6 _ rfl, blk_cell hbox 7 _ rfl, blk_cell hbox 8 _ rfl, hc⟩)
      replace hfd := Lib.hid hfd
      replace hsn := Lib.hid hsn
      replace hbox := Lib.hid hbox
      replace hrm := Lib.hid hrm
      replace hof := Lib.hid hof
      replace hap := Lib.hid hap
      replace hown := Lib.hid hown
      replace hbel := Lib.hid hbel
      clear hcell hx hq hc hQ hS st0
      go_upto_region 6 with (fail)
      generalize hwq : wr = wq at *
      go_cut [8, 9] (fun u t wx => Mid15 32 wq (.agg #[.int .i64 M.kind, .string S, .slice pn' M.n.length cn', .slice pg' M.g.length cg', .bool M.s.on, .int .i64 M.s.kind, .bool M.s.pict, .bool M.s.odd, .slice pc' M.c.length cc']) (q1, q2) u t wx)
      case first =>
        refine wp_region_held_drew (S := fun w' => w'.cell? ⟨w2.heap.size, 0, none⟩ = some (.int .i64 M.kind) ∧ w'.cell? ⟨w2.heap.size, 1, none⟩ = some (.string S) ∧ w'.cell? ⟨w2.heap.size, 2, none⟩ = some (.slice pn' M.n.length cn') ∧ w'.cell? ⟨w2.heap.size, 3, none⟩ = some (.slice pg' M.g.length cg') ∧ w'.cell? ⟨w2.heap.size, 4, none⟩ = some (.bool M.s.on) ∧ w'.cell? ⟨w2.heap.size, 5, none⟩ = some (.int .i64 M.s.kind) ∧ w'.cell? ⟨w2.heap.size, 6, none⟩ = some (.bool M.s.pict) ∧ w'.cell? ⟨w2.heap.size, 7, none⟩ = some (.bool M.s.odd) ∧ w'.cell? ⟨w2.heap.size, 8, none⟩ = some (.slice pc' M.c.length cc') ∧ w'.cell? ⟨b, off + k, none⟩ = some (.int .i64 x)) (by kernel_rfl) (held10_drew H2.out) (fun hS => ?_)
        refine' wpAnyH_take (i := 0) (oi := ⟨_, _, _, _, _, _⟩) (v := _) rfl (by kernel_rfl) (by kernel_rfl) (by kernel_rfl) (fun _ _ _ h => h) (Or.inl ⟨by rfl, ?hy0⟩) hS ?rest0
        case hy0 => (intro wz hSw; (try dsimp only at hSw); go_simp; try with_reducible rfl)
        try simp only [Act.put, List.setIfInBounds_toArray, List.set_cons_zero, List.set_cons_succ]
        refine' wpAnyH_take (i := 1) (oi := ⟨_, _, _, _, _, _⟩) (v := _) rfl (by kernel_rfl) (by kernel_rfl) (by kernel_rfl) (fun _ _ _ h => h) (Or.inl ⟨by rfl, ?hy1⟩) hS ?rest1
        case hy1 => (intro wz hSw; (try dsimp only at hSw); go_simp; try with_reducible rfl)
        try simp only [Act.put, List.setIfInBounds_toArray, List.set_cons_zero, List.set_cons_succ]
        refine' wpAnyH_take (i := 2) (oi := ⟨_, _, _, _, _, _⟩) (v := _) rfl (by kernel_rfl) (by kernel_rfl) (by kernel_rfl) (fun _ _ _ h => h) (Or.inl ⟨by rfl, ?hy2⟩) hS ?rest2
        case hy2 => (intro wz hSw; (try dsimp only at hSw); go_simp; try with_reducible rfl)
        try simp only [Act.put, List.setIfInBounds_toArray, List.set_cons_zero, List.set_cons_succ]
        refine' wpAnyH_take (i := 3) (oi := ⟨_, _, _, _, _, _⟩) (v := _) rfl (by kernel_rfl) (by kernel_rfl) (by kernel_rfl) (fun _ _ _ h => h) (Or.inl ⟨by rfl, ?hy3⟩) hS ?rest3
        case hy3 => (intro wz hSw; (try dsimp only at hSw); go_simp; try with_reducible rfl)
        try simp only [Act.put, List.setIfInBounds_toArray, List.set_cons_zero, List.set_cons_succ]
        refine' wpAnyH_take (i := 4) (oi := ⟨_, _, _, _, _, _⟩) (v := _) rfl (by kernel_rfl) (by kernel_rfl) (by kernel_rfl) (fun _ _ _ h => h) (Or.inl ⟨by rfl, ?hy4⟩) hS ?rest4
        case hy4 => (intro wz hSw; (try dsimp only at hSw); go_simp; try with_reducible rfl)
        try simp only [Act.put, List.setIfInBounds_toArray, List.set_cons_zero, List.set_cons_succ]
        refine wpAnyH_ready (rs := [5, 9]) (by kernel_rfl) (by simp) (AllReadyH.cons rfl (fun K hK => ?_) (AllReadyH.cons rfl (fun K hK => ?_) AllReadyH.nil))
        · go_simp
          go_at_call 12
          refine (hfd.out _ _ (rm_drew hrm.out)).mono ?_
          rintro e w3 ⟨va, vt, rfl, ha, ht, hoff, hb3⟩
          obtain ⟨qn, dn, qg, dg, qc, dc, rfl⟩ := rm_form ha
          unfold cellsM at ha hoff ⊢
          replace ha := Lib.hid ha
          replace ht := Lib.hid ht
          replace hoff := Lib.hid hoff
          go_wp2_with fail
          refine hK.out _ _ (held10_at hb3 (held10_drew H2.out)) (fun hSn => ?_)
          clear hS
          have hS := hSn
          clear hSn
          clear hK K
          try simp only [Act.put, List.setIfInBounds_toArray, List.set_cons_zero, List.set_cons_succ]
          have h3 := Lib.hid hS
          refine' wpAnyH_take (i := 6) (oi := ⟨_, _, _, _, _, _⟩) (v := _) rfl (by kernel_rfl) (by kernel_rfl) (by kernel_rfl) (fun _ _ _ h => h) (Or.inl ⟨by rfl, ?hy6⟩) hS ?rest6
          case hy6 => (intro wz hSw; (try dsimp only at hSw); go_simp; try with_reducible rfl)
          try simp only [Act.put, List.setIfInBounds_toArray, List.set_cons_zero, List.set_cons_succ]
          refine' wpAnyH_take (i := 7) (oi := ⟨_, _, _, _, _, _⟩) (v := _) rfl (by kernel_rfl) (by kernel_rfl) (by kernel_rfl) (fun _ _ _ h => h) (Or.inl ⟨by rfl, ?hy7⟩) hS ?rest7
          case hy7 => (intro wz hSw; (try dsimp only at hSw); go_simp; try with_reducible rfl)
          try simp only [Act.put, List.setIfInBounds_toArray, List.set_cons_zero, List.set_cons_succ]
          refine' wpAnyH_take (i := 8) (oi := ⟨_, _, _, _, _, _⟩) (v := _) rfl (by kernel_rfl) (by kernel_rfl) (by kernel_rfl) (fun _ _ _ h => h) (Or.inl ⟨by rfl, ?hy8⟩) hS ?rest8
          case hy8 => (intro wz hSw; (try dsimp only at hSw); go_simp; try with_reducible rfl)
          try simp only [Act.put, List.setIfInBounds_toArray, List.set_cons_zero, List.set_cons_succ]
          refine wpAnyH_ready (rs := [9]) (by kernel_rfl) (by simp) (AllReadyH.cons rfl (fun K hK => ?_) AllReadyH.nil)
          go_simp
          go_wp2_with fail
          refine hK.out _ _ (held10_at (below_new w3 _) h3.out) (fun hSn => ?_)
          clear hS
          have hS := hSn
          clear hSn
          clear hK K
          try simp only [Act.put, List.setIfInBounds_toArray, List.set_cons_zero, List.set_cons_succ]
          refine wpAnyH_ready (rs := [10]) (by kernel_rfl) (by simp) (AllReadyH.cons rfl (fun K hK => ?_) AllReadyH.nil)
          go_simp
          go_wp2_with fail
          refine hK.out _ _ (held10_at (below_new w3 _) h3.out) (fun hSn => ?_)
          clear hS
          have hS := hSn
          clear hSn
          clear hK K
          try simp only [Act.put, List.setIfInBounds_toArray, List.set_cons_zero, List.set_cons_succ]
          refine' wpAnyH_take (i := 11) (oi := ⟨_, _, _, _, _, _⟩) (v := _) rfl (by kernel_rfl) (by kernel_rfl) (by kernel_rfl) (fun _ _ _ h => h) (Or.inl ⟨by rfl, ?hy11⟩) hS ?rest11
          case hy11 => (intro wz hSw; (try dsimp only at hSw); go_simp; try with_reducible rfl)
          try simp only [Act.put, List.setIfInBounds_toArray, List.set_cons_zero, List.set_cons_succ]
          refine wpAnyH_done (by kernel_rfl) ?_ _
          go_simp
          go_wp2_with fail
          go_meet
          exact mid15_last ha.out ht.out hoff.out hb3
        · go_simp
          go_wp2_with fail
          refine hK.out _ _ (held10_at (below_new _ _) (held10_drew H2.out)) (fun hSn => ?_)
          clear hS
          have hS := hSn
          clear hSn
          clear hK K
          try simp only [Act.put, List.setIfInBounds_toArray, List.set_cons_zero, List.set_cons_succ]
          refine wpAnyH_ready (rs := [5]) (by kernel_rfl) (by simp) (AllReadyH.cons rfl (fun K hK => ?_) AllReadyH.nil)
          go_simp
          go_at_call 12
          refine (hfd.out _ _ (rm_drew (rm_below hrm.out (below_new wq _)))).mono ?_
          rintro e w3 ⟨va, vt, rfl, ha, ht, hoff, hb3⟩
          obtain ⟨qn, dn, qg, dg, qc, dc, rfl⟩ := rm_form ha
          unfold cellsM at ha hoff ⊢
          replace ha := Lib.hid ha
          replace ht := Lib.hid ht
          replace hoff := Lib.hid hoff
          go_wp2_with fail
          refine hK.out _ _ (held10_at hb3 hS) (fun hSn => ?_)
          clear hS
          have hS := hSn
          clear hSn
          clear hK K
          try simp only [Act.put, List.setIfInBounds_toArray, List.set_cons_zero, List.set_cons_succ]
          have h3 := Lib.hid hS
          refine' wpAnyH_take (i := 6) (oi := ⟨_, _, _, _, _, _⟩) (v := _) rfl (by kernel_rfl) (by kernel_rfl) (by kernel_rfl) (fun _ _ _ h => h) (Or.inl ⟨by rfl, ?hyB6⟩) hS ?restB6
          case hyB6 => (intro wz hSw; (try dsimp only at hSw); go_simp; try with_reducible rfl)
          try simp only [Act.put, List.setIfInBounds_toArray, List.set_cons_zero, List.set_cons_succ]
          refine' wpAnyH_take (i := 7) (oi := ⟨_, _, _, _, _, _⟩) (v := _) rfl (by kernel_rfl) (by kernel_rfl) (by kernel_rfl) (fun _ _ _ h => h) (Or.inl ⟨by rfl, ?hyB7⟩) hS ?restB7
          case hyB7 => (intro wz hSw; (try dsimp only at hSw); go_simp; try with_reducible rfl)
          try simp only [Act.put, List.setIfInBounds_toArray, List.set_cons_zero, List.set_cons_succ]
          refine' wpAnyH_take (i := 8) (oi := ⟨_, _, _, _, _, _⟩) (v := _) rfl (by kernel_rfl) (by kernel_rfl) (by kernel_rfl) (fun _ _ _ h => h) (Or.inl ⟨by rfl, ?hyB8⟩) hS ?restB8
          case hyB8 => (intro wz hSw; (try dsimp only at hSw); go_simp; try with_reducible rfl)
          try simp only [Act.put, List.setIfInBounds_toArray, List.set_cons_zero, List.set_cons_succ]
          have h5 := blk_below (w := (wq.alloc (.cells #[.int .i64 0, .string ⟨#[]⟩, .slice none 0 0, .slice none 0 0, .bool false, .int .i64 0, .bool false, .bool false, .slice none 0 0] 32)).drew) (blk_new wq #[.int .i64 0, .string ⟨#[]⟩, .slice none 0 0, .slice none 0 0, .bool false, .int .i64 0, .bool false, .bool false, .slice none 0 0] 32) hb3
          have h50 := blk_cell h5 0 _ rfl
          have f50 := blk_thaw h5 0
          have h51 := blk_cell h5 1 _ rfl
          have f51 := blk_thaw h5 1
          have h52 := blk_cell h5 2 _ rfl
          have f52 := blk_thaw h5 2
          have h53 := blk_cell h5 3 _ rfl
          have f53 := blk_thaw h5 3
          have h54 := blk_cell h5 4 _ rfl
          have f54 := blk_thaw h5 4
          have h55 := blk_cell h5 5 _ rfl
          have f55 := blk_thaw h5 5
          have h56 := blk_cell h5 6 _ rfl
          have f56 := blk_thaw h5 6
          have h57 := blk_cell h5 7 _ rfl
          have f57 := blk_thaw h5 7
          have h58 := blk_cell h5 8 _ rfl
          have f58 := blk_thaw h5 8
          replace h5 := Lib.hid h5
          refine wpAnyH_ready (rs := [10]) (by kernel_rfl) (by simp) (AllReadyH.cons rfl (fun K hK => ?_) AllReadyH.nil)
          go_simp
          go_wp2_with fail
          refine hK.out _ _ (held10_set9 _ _ _ _ _ _ _ _ _ h3.out (by simp; omega) (by simp; omega) (by simp; omega) (by simp; omega) (by simp; omega) (by simp; omega) (by simp; omega) (by simp; omega) (by simp; omega) (by simp; omega)) (fun hSn => ?_)
          clear hS
          have hS := hSn
          clear hSn
          clear hK K
          try simp only [Act.put, List.setIfInBounds_toArray, List.set_cons_zero, List.set_cons_succ]
          refine' wpAnyH_take (i := 11) (oi := ⟨_, _, _, _, _, _⟩) (v := _) rfl (by kernel_rfl) (by kernel_rfl) (by kernel_rfl) (fun _ _ _ h => h) (Or.inl ⟨by rfl, ?hyB11⟩) hS ?restB11
          case hyB11 => (intro wz hSw; (try dsimp only at hSw); go_simp; try with_reducible rfl)
          try simp only [Act.put, List.setIfInBounds_toArray, List.set_cons_zero, List.set_cons_succ]
          refine wpAnyH_done (by kernel_rfl) ?_ _
          go_simp
          go_wp2_with fail
          go_meet
          exact mid15_first hrm.out ha.out ht.out hoff.out hb3
      case rest =>
        obtain ⟨bt, va', cs, rfl, hbt, rfl, hbx, ra, rt, hoff, ho1, ho2, hbc⟩ := hcut
        obtain ⟨qn, dn, qg, dg, qc, dc, ecs⟩ := rm_form ra
        injection ecs with ecs
        subst ecs
        obtain ⟨pt, ct, rfl⟩ := ri_form rt
        unfold cellsM at hbx ra hoff ho1
        dsimp only at hbx ra rt hoff ho1 ho2
        have hboxc := blk_below hbox.out hbc
        have kt0 := blk_cell hbx 0 _ rfl
        have ks0 := blk_cell hboxc 0 _ rfl
        have fs0 := blk_thaw hboxc 0
        have kt1 := blk_cell hbx 1 _ rfl
        have ks1 := blk_cell hboxc 1 _ rfl
        have fs1 := blk_thaw hboxc 1
        have kt2 := blk_cell hbx 2 _ rfl
        have ks2 := blk_cell hboxc 2 _ rfl
        have fs2 := blk_thaw hboxc 2
        have kt3 := blk_cell hbx 3 _ rfl
        have ks3 := blk_cell hboxc 3 _ rfl
        have fs3 := blk_thaw hboxc 3
        have kt4 := blk_cell hbx 4 _ rfl
        have ks4 := blk_cell hboxc 4 _ rfl
        have fs4 := blk_thaw hboxc 4
        have kt5 := blk_cell hbx 5 _ rfl
        have ks5 := blk_cell hboxc 5 _ rfl
        have fs5 := blk_thaw hboxc 5
        have kt6 := blk_cell hbx 6 _ rfl
        have ks6 := blk_cell hboxc 6 _ rfl
        have fs6 := blk_thaw hboxc 6
        have kt7 := blk_cell hbx 7 _ rfl
        have ks7 := blk_cell hboxc 7 _ rfl
        have fs7 := blk_thaw hboxc 7
        have kt8 := blk_cell hbx 8 _ rfl
        have ks8 := blk_cell hboxc 8 _ rfl
        have fs8 := blk_thaw hboxc 8
        have hnew' := blk_set9 hboxc (.int .i64 q1.kind) (.string ⟨q1.d.toArray⟩) (.slice qn q1.n.length dn) (.slice qg q1.g.length dg) (.bool q1.s.on) (.int .i64 q1.s.kind) (.bool q1.s.pict) (.bool q1.s.odd) (.slice qc q1.c.length dc)
        have hsame := same_set9 wc w2.heap.size (.int .i64 q1.kind) (.string ⟨q1.d.toArray⟩) (.slice qn q1.n.length dn) (.slice qg q1.g.length dg) (.bool q1.s.on) (.int .i64 q1.s.kind) (.bool q1.s.pict) (.bool q1.s.odd) (.slice qc q1.c.length dc)
        have hoS := hoff w2.heap.size hkA hof.out
        have ra2 := rm_but ra hsame (fun j e => e ▸ hoS.1)
        have rt2 := ri_src (ri_but rt hsame (fun j e => e ▸ hoS.2))
        have hnot := own_not hown.out (Nat.lt_succ_self w2.heap.size)
        have own2 := ownI_but (ownI_below hown.out hbc) hsame (fun j e h => hnot (by rw [h, e]))
        have hap2 := Lib.hid (fun j e => (hoff j (World.ownsRow.lt hown.out j e).2 (hap.out j e)).1)
        have hbel2 := below_set9 (hbel.out.trans (hbc.mono hbel.out.size)) (Nat.le_refl _) (.int .i64 q1.kind) (.string ⟨q1.d.toArray⟩) (.slice qn q1.n.length dn) (.slice qg q1.g.length dg) (.bool q1.s.on) (.int .i64 q1.s.kind) (.bool q1.s.pict) (.bool q1.s.odd) (.slice qc q1.c.length dc)
        have hsz : w2.heap.size + 1 ≤ (set9 wc w2.heap.size (.int .i64 q1.kind) (.string ⟨q1.d.toArray⟩) (.slice qn q1.n.length dn) (.slice qg q1.g.length dg) (.bool q1.s.on) (.int .i64 q1.s.kind) (.bool q1.s.pict) (.bool q1.s.odd) (.slice qc q1.c.length dc)).heap.size := by rw [set9_size]; exact Nat.le_trans hkA hbc.size
        obtain ⟨W9, hW9⟩ : ∃ W9, set9 wc w2.heap.size (.int .i64 q1.kind) (.string ⟨q1.d.toArray⟩) (.slice qn q1.n.length dn) (.slice qg q1.g.length dg) (.bool q1.s.on) (.int .i64 q1.s.kind) (.bool q1.s.pict) (.bool q1.s.odd) (.slice qc q1.c.length dc) = W9 := ⟨_, rfl⟩
        rw [hW9] at hnew' ra2 rt2 own2 hbel2 hsz
        unfold set9 at hW9
        have h8a := Lib.hid (show o.length + q2.length ≤ maxLen by unfold maxLen; omega)
        have h8b := Lib.hid (show (o.length + q2.length) * 8 ≤ 140737488355328 by omega)
        have hoS1 := Lib.hid hoS.1
        replace hnew' := Lib.hid hnew'
        replace ra2 := Lib.hid ra2
        replace rt2 := Lib.hid rt2
        replace own2 := Lib.hid own2
        replace hbel2 := Lib.hid hbel2
        replace hsz := Lib.hid hsz
        replace hbx := Lib.hid hbx
        clear ra rt hoff ho1 ho2 hbc hboxc hsame hoS hnot H2 hfd hbox hrm hof hap hown hbel hwq
        go_upto_region 8 with (fail)
        try rw [hW9]
        clear hW9 kt0 ks0 fs0 kt1 ks1 fs1 kt2 ks2 fs2 kt3 ks3 fs3 kt4 ks4 fs4 kt5 ks5 fs5 kt6 ks6 fs6 kt7 ks7 fs7 kt8 ks8 fs8
        go_wp2_with (at_builtin; refine wpList_append_src3 rfl _ _ 24 rfl (w2.heap.size + 1) 3 i0 (.int .i64 0) 8 Tryz.underlying24 hi hz0 hz1 hz2 rfl _ _ _ rfl own2.out _ _ rfl rt2.out (oneCellI q2) (by rw [List.length_map]; exact h8a.out) (by rw [List.length_map]; exact h8b.out) hsz.out ?_; intro v5 w5 hown5 hgrow5 hlies5; have o5 := Lib.hid (ownI_of_row (l := o ++ q2) hown5 (by simp) (by simp)); have x5 := Lib.hid (blk_grown hnew'.out hgrow5 (own_not own2.out (Nat.lt_succ_self _))); have r5 := Lib.hid (rm_but ra2.out (same_grown hgrow5) (fun j e => hap2.out j e)); have p5 := Lib.hid (off_lies hlies5 (fun j e => hap2.out j e) ra2.out); have b5 := Lib.hid (below_row hbel2.out hgrow5 (Nat.le_trans (Nat.le_succ _) hsz.out) own2.out (Nat.le_succ _)); clear hown5 hgrow5 hlies5)
        go_roundg (a.length - (k + 1))
        case measure => omega
        case rel => exact ⟨k + 1, by omega, by go_num, rfl, by rw [hsn.out]; simp; omega, by rw [hsn.out]; exact ⟨qn, dn, qg, dg, qc, dc, x5.out, r5.out, hoS1.out, p5.out, o5.out, b5.out⟩⟩
    · obtain rfl : k = a.length := by omega
      have hlt' : decide ((a.length : Int) < (a.length : Int)) = false := by simp
      rw [List.take_length] at hbox hrm hof hap hown hol
      have hend' := fun V W h => hend.out V W h
      have hEE' := hEE.out
      have het' := het.out
      obtain ⟨Q, hQ⟩ : ∃ Q, G a = Q := ⟨_, rfl⟩
      rw [hQ] at hbox hrm hown hol hend' hEE' het'
      obtain ⟨M, o⟩ := Q
      obtain ⟨D, hD⟩ : ∃ D, Mch.endM M = D := ⟨_, rfl⟩
      dsimp only at hbox hrm hown hol hend' hEE' het'
      rw [hD] at hend' hEE' het'
      obtain ⟨d1, d2⟩ := D
      dsimp only at hEE' het'
      unfold cellsM at hbox hrm
      obtain ⟨c0, c1, c2, c3, c4, c5, c6, c7, c8⟩ := held9 hbox
      have own0 := Lib.hid (ownI_mono hown (Nat.le_succ w2.heap.size))
      replace hend' := Lib.hid hend'
      replace hEE' := Lib.hid hEE'
      replace hbox := Lib.hid hbox
      replace hrm := Lib.hid hrm
      replace hbel := Lib.hid hbel
      replace hQ := Lib.hid hQ
      clear hof hap hown hraW
      go_wp2_with fail
      refine (hend'.out _ _ hrm.out).mono ?_
      rintro e w3 ⟨ve, vt, rfl, re, rt, hoff, q3⟩
      obtain ⟨qn, dn, qg, dg, qc, dc, rfl⟩ := rm_form re
      obtain ⟨pt, ct, rfl⟩ := ri_form rt
      dsimp only at rt
      unfold cellsM
      have o3 := Lib.hid (ownI_alloc (ownI_below own0.out q3) (.cells (cellsM d1.kind ⟨d1.d.toArray⟩ qn d1.n.length dn qg d1.g.length dg d1.s.on d1.s.kind d1.s.pict d1.s.odd qc d1.c.length dc) 32))
      have s3 := Lib.hid (ri_src (ri_below rt (below_new w3 (.cells (cellsM d1.kind ⟨d1.d.toArray⟩ qn d1.n.length dn qg d1.g.length dg d1.s.on d1.s.kind d1.s.pict d1.s.odd qc d1.c.length dc) 32))))
      have b3 := Lib.hid ((below_on hbel.out q3).alloc (below_on hbel.out q3).size (.cells (cellsM d1.kind ⟨d1.d.toArray⟩ qn d1.n.length dn qg d1.g.length dg d1.s.on d1.s.kind d1.s.pict d1.s.odd qc d1.c.length dc) 32))
      unfold cellsM at o3 s3 b3
      clear re rt hoff q3 own0
      go_wp2_with (at_builtin; refine wpList_append_src rfl _ _ 24 rfl w2.heap.size 3 i0 (.int .i64 0) 8 Tryz.underlying24 hi hz0 hz1 hz2 rfl _ _ _ rfl o3.out _ _ rfl s3.out (oneCellI _) (by unfold maxLen; first | (simp; done) | (simp; omega)) (by first | (simp; done) | (simp; omega)) b3.out.size ?_; intro v4 w4 ho4 hg4; have o4 := Lib.hid (ownI_of_row (l := o ++ d2) ho4 (by (try simp); try omega) (by (try simp); try omega)); have b4 := Lib.hid (below_row b3.out hg4 b3.out.size o3.out (Nat.le_refl _)); clear ho4 hg4)
      go_ret
      exact ⟨_, rfl, by rw [← hEE'.out]; exact ri_of_own o4.out, below_on hb2.out b4.out⟩
end Go.Proofs.YtiidjkhkcckmkaaGreatDoor

