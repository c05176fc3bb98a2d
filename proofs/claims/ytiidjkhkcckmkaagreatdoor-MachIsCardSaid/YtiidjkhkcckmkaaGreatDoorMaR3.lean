/- Layer 15: the document's framed. -/
import Derived.Test.YtiidjkhkcckmkaaGreatDoorMaBP
import Derived.Test.YtiidjkhkcckmkaaGreatDoorFrRP
import Derived.Test.YtiidjkhkcckmkaaGreatDoorKP
namespace Go.Proofs.YtiidjkhkcckmkaaGreatDoor
set_option linter.unusedSimpArgs false
set_option linter.unusedVariables false
open Go.RowKit Go.Lib
open Mch (MS)
set_option maxHeartbeats 6400000 in
set_option maxRecDepth 100000 in
theorem rframed15_any (v : Value) (m : MS) (x : Int) (w : World) (h4 : m.kind = 4) (hs : m.c.length ≤ 32) (hv : RM w v m) : Calls Tryz.prog 39 #[v, .int .i64 x] w (FedM v (Mch.feedK m x) w) := by
  obtain ⟨i0, hi, hz0, hz1, hz2⟩ := info_parts info_i
  have hv0 := hv
  obtain ⟨vn, vg, vc, rfl, hvn, hvg, hvc⟩ := hv
  obtain ⟨pn, cn, rfl⟩ := ri_form hvn
  obtain ⟨pg, cg, rfl⟩ := ri_form hvg
  obtain ⟨pc, cc, rfl⟩ := ri_form hvc
  have hfk : Mch.feedK m x = if x = -1 then (Mch.bare 4, Mch.itemsOf (Frm.putF m.c)) else if m.c.length = 32 then (m, []) else ({ Mch.bare 4 with c := m.c ++ [x] }, []) := by
    unfold Mch.feedK
    rw [if_neg (by omega), if_neg (by omega), if_neg (by omega), if_neg (by omega)]
  rw [hfk]
  clear hfk
  replace h4 := Lib.hid h4
  have hbox0 := blk_new w #[.int .i64 m.kind, .string ⟨m.d.toArray⟩, .slice pn m.n.length cn, .slice pg m.g.length cg, .bool m.s.on, .int .i64 m.s.kind, .bool m.s.pict, .bool m.s.odd, .slice pc m.c.length cc] 32
  have hbox := blk_alloc hbox0 (.cells (bare9 0) 32)
  have hres := blk_new (w.alloc (.cells #[.int .i64 m.kind, .string ⟨m.d.toArray⟩, .slice pn m.n.length cn, .slice pg m.g.length cg, .bool m.s.on, .int .i64 m.s.kind, .bool m.s.pict, .bool m.s.odd, .slice pc m.c.length cc] 32)) (bare9 0) 32
  rw [World.size_alloc] at hres
  have hb0 := (below_new w (.cells #[.int .i64 m.kind, .string ⟨m.d.toArray⟩, .slice pn m.n.length cn, .slice pg m.g.length cg, .bool m.s.on, .int .i64 m.s.kind, .bool m.s.pict, .bool m.s.odd, .slice pc m.c.length cc] 32)).alloc (by simp) (.cells (bare9 0) 32)
  obtain ⟨W, hW⟩ : ∃ W, (w.alloc (.cells #[.int .i64 m.kind, .string ⟨m.d.toArray⟩, .slice pn m.n.length cn, .slice pg m.g.length cg, .bool m.s.on, .int .i64 m.s.kind, .bool m.s.pict, .bool m.s.odd, .slice pc m.c.length cc] 32)).alloc (.cells (bare9 0) 32) = W := ⟨_, rfl⟩
  rw [hW] at hbox hres hb0
  have hvcW := Lib.hid (ri_below hvc hb0)
  replace hbox := Lib.hid hbox
  replace hres := Lib.hid hres
  replace hb0 := Lib.hid hb0
  replace hW := Lib.hid hW
  replace hv0 := Lib.hid hv0
  replace hvc := Lib.hid hvc
  clear hvn hvg hbox0
  by_cases hx : x = -1
  · subst hx
    rw [if_pos rfl]
    unfold mchV strV
    go_enter Tryz.func39, Tryz.ntmps39
    go_upto_region 2 with (fail)
    rw [hW.out]
    have hc8 := Lib.hid (blk_cell hbox.out 8 _ rfl)
    have hput := Lib.hid (fun W' (h : RI W' (.slice pc m.c.length cc) m.c) => rput13_any _ m.c W' (by omega) h)
    have hnew := Lib.hid (fun W' => rnew15_any 4 W')
    have hpl : (Frm.putF m.c).length ≤ 100000 := by have := Mch.putF_len m.c; omega
    have hit := Lib.hid (fun W' u (h : RBytes W' u (Frm.putF m.c)) => ritems15_any u (Frm.putF m.c) W' hpl h)
    refine wp_region_held_drew (S := fun w' => w'.cell? ⟨w.heap.size, 8, none⟩ = some (.slice pc m.c.length cc)) (by kernel_rfl) (hc8.out) (fun hS => ?_)
    refine' wpAnyH_take (i := 1) (oi := ⟨_, _, _, _, _, _⟩) (v := _) rfl (by kernel_rfl) (by kernel_rfl) (by kernel_rfl) (fun _ _ _ h => h) (Or.inl ⟨by rfl, ?hy1⟩) hS ?rest1
    case hy1 => (intro wz hSw; (try dsimp only at hSw); go_simp; try with_reducible rfl)
    try simp only [Act.put, List.setIfInBounds_toArray, List.set_cons_zero, List.set_cons_succ]
    refine' wpAnyH_take (i := 2) (oi := ⟨_, _, _, _, _, _⟩) (v := _) rfl (by kernel_rfl) (by kernel_rfl) (by kernel_rfl) (fun _ _ _ h => h) (Or.inl ⟨by rfl, ?hy2⟩) hS ?rest2
    case hy2 => (intro wz hSw; (try dsimp only at hSw); go_simp; try with_reducible rfl)
    try simp only [Act.put, List.setIfInBounds_toArray, List.set_cons_zero, List.set_cons_succ]
    refine wpAnyH_ready (rs := [0]) (by kernel_rfl) (by simp) (AllReadyH.cons rfl (fun K hK => ?_) AllReadyH.nil)
    go_simp
    go_at_call 19
    refine (hnew.out _).mono ?_
    rintro e w2 ⟨rfl, q2⟩
    have r2 := Lib.hid (blk_below (w := W.drew) hres.out q2)
    have v2 := Lib.hid (ri_below (ri_drew hvcW.out) q2)
    have b2 := Lib.hid (below_on (show Below w.heap.size w W.drew from hb0.out.drew) q2)
    have x2 := Lib.hid (blk_below (w := W.drew) hbox.out q2)
    clear q2
    go_wp2_with fail
    refine hK.out _ _ (blk_cell x2.out 8 _ rfl) (fun hSn => ?_)
    clear hS
    have hS := hSn
    clear hSn
    clear hK K
    try simp only [Act.put, List.setIfInBounds_toArray, List.set_cons_zero, List.set_cons_succ]
    refine wpAnyH_ready (rs := [3]) (by kernel_rfl) (by simp) (AllReadyH.cons rfl (fun K hK => ?_) AllReadyH.nil)
    go_simp
    go_at_call 72
    refine (hput.out _ v2.out).mono ?_
    rintro e w3 ⟨vp, rfl, rp, q3⟩
    obtain ⟨pp, cp, rfl⟩ := bytes_form rp
    replace rp := Lib.hid rp
    have r3 := Lib.hid (blk_below r2.out q3)
    have b3 := Lib.hid (below_on b2.out q3)
    have x3 := Lib.hid (blk_below x2.out q3)
    clear q3
    go_wp2_with fail
    refine hK.out _ _ (blk_cell x3.out 8 _ rfl) (fun hSn => ?_)
    clear hS
    have hS := hSn
    clear hSn
    clear hK K
    try simp only [Act.put, List.setIfInBounds_toArray, List.set_cons_zero, List.set_cons_succ]
    refine wpAnyH_ready (rs := [4]) (by kernel_rfl) (by simp) (AllReadyH.cons rfl (fun K hK => ?_) AllReadyH.nil)
    go_simp
    go_at_call 71
    refine (hit.out _ _ rp.out).mono ?_
    rintro e w4 ⟨vt, rfl, rt, q4⟩
    obtain ⟨pt, ct, rfl⟩ := ri_form (ri_of_own rt)
    have rt4 := Lib.hid (ownI_mono rt b3.out.size)
    have r4 := blk_below r3.out q4
    have b4 := Lib.hid (below_on b3.out q4)
    have x4 := Lib.hid (blk_below x3.out q4)
    clear q4 rt
    go_wp2_with fail
    refine hK.out _ _ (blk_cell x4.out 8 _ rfl) (fun hSn => ?_)
    clear hS
    have hS := hSn
    clear hSn
    clear hK K
    try simp only [Act.put, List.setIfInBounds_toArray, List.set_cons_zero, List.set_cons_succ]
    obtain ⟨y0, y1, y2, y3, y4, y5, y6, y7, y8⟩ := held9 r4
    have fy0 := blk_thaw r4 0
    have fy1 := blk_thaw r4 1
    have fy2 := blk_thaw r4 2
    have fy3 := blk_thaw r4 3
    have fy4 := blk_thaw r4 4
    have fy5 := blk_thaw r4 5
    have fy6 := blk_thaw r4 6
    have fy7 := blk_thaw r4 7
    have fy8 := blk_thaw r4 8
    have hfin := Lib.hid (fed_done (v := .agg #[.int .i64 m.kind, .string ⟨m.d.toArray⟩, .slice pn m.n.length cn, .slice pg m.g.length cg, .bool m.s.on, .int .i64 m.s.kind, .bool m.s.pict, .bool m.s.odd, .slice pc m.c.length cc]) (q := (Mch.bare 4, Mch.itemsOf (Frm.putF m.c))) r4 (Nat.le_succ w.heap.size) (ownI_nil _ _) (ownI_nil _ _) (ownI_nil _ _) rt4.out b4.out)
    have n9 := blk_set9 r4 (.int .i64 4) (.string ⟨#[]⟩) nilV nilV (.bool false) (.int .i64 0) (.bool false) (.bool false) nilV
    unfold set9 at n9
    obtain ⟨z0, z1, z2, z3, z4, z5, z6, z7, z8⟩ := held9 n9
    have hh9 := Lib.hid (And.intro z0 (And.intro z1 (And.intro z2 (And.intro z3 (And.intro z4 (And.intro z5 (And.intro z6 (And.intro z7 z8))))))))
    clear z0 z1 z2 z3 z4 z5 z6 z7 z8
    replace n9 := Lib.hid n9
    replace r4 := Lib.hid r4
    refine wpAnyH_ready (rs := [5]) (by kernel_rfl) (by simp) (AllReadyH.cons rfl (fun K hK => ?_) AllReadyH.nil)
    go_simp
    go_wp2_with fail
    refine hK.out _ _ (by show (set9 w4 (w.heap.size + 1) (.int .i64 4) (.string ⟨#[]⟩) nilV nilV (.bool false) (.int .i64 0) (.bool false) (.bool false) nilV).cell? _ = _; exact (World.cell?_of_block (w := w4) (a := ⟨w.heap.size, 8, none⟩) (set9_block w4 (w.heap.size + 1) _ _ _ _ _ _ _ _ _ _ (by simp))).trans (blk_cell x4.out 8 _ rfl)) (fun hSn => ?_)
    clear hS
    have hS := hSn
    clear hSn
    clear hK K
    try simp only [Act.put, List.setIfInBounds_toArray, List.set_cons_zero, List.set_cons_succ]
    refine' wpAnyH_take (i := 6) (oi := ⟨_, _, _, _, _, _⟩) (v := _) rfl (by kernel_rfl) (by kernel_rfl) (by kernel_rfl) (fun _ _ _ h => h) (Or.inl ⟨by rfl, ?hy6⟩) hS ?rest6
    case hy6 => (intro wz hSw; (try dsimp only at hSw); go_simp; try with_reducible rfl)
    try simp only [Act.put, List.setIfInBounds_toArray, List.set_cons_zero, List.set_cons_succ]
    refine wpAnyH_done (by kernel_rfl) ?_ _
    go_wp2_with fail
    obtain ⟨z0, z1, z2, z3, z4, z5, z6, z7, z8⟩ := hh9.out
    refine bodyPost_ret (v := .tuple #[.agg (bare9 4), .slice pt (Mch.itemsOf (Frm.putF m.c)).length ct]) ?_ rfl ?_
    · skip
      simp [results, Tryz.results39, go_sem, z0, z1, z2, z3, z4, z5, z6, z7, z8]
    · have := hfin.out
      unfold set9 at this
      exact this
  · rw [if_neg hx]
    by_cases h32 : m.c.length = 32
    · rw [if_pos h32]
      have t32 : (m.c.length : Int) = 32 := by omega
      replace h32 := Lib.hid h32
      unfold mchV strV
      go_enter Tryz.func39, Tryz.ntmps39
      go_upto_region 1 with (fail)
      rw [hW.out]
      have c8 := blk_cell hbox.out 8 _ rfl
      go_upto_region 4 with (fail)
      obtain ⟨c0, c1, c2, c3, c4, c5, c6, c7, c8⟩ := held9 hbox.out
      have hrs := hres.out
      obtain ⟨y0, y1, y2, y3, y4, y5, y6, y7, y8⟩ := held9 hrs
      have fy0 := blk_thaw hrs 0
      have fy1 := blk_thaw hrs 1
      have fy2 := blk_thaw hrs 2
      have fy3 := blk_thaw hrs 3
      have fy4 := blk_thaw hrs 4
      have fy5 := blk_thaw hrs 5
      have fy6 := blk_thaw hrs 6
      have fy7 := blk_thaw hrs 7
      have fy8 := blk_thaw hrs 8
      replace hrs := Lib.hid hrs
      go_wp2_with fail
      have hfin := Lib.hid (fed_same hrs.out (Nat.le_succ w.heap.size) rfl hv0.out hb0.out)
      have hrs' := hrs.out
      have n9 := blk_set9 hrs' (.int .i64 m.kind) (.string ⟨m.d.toArray⟩) (.slice pn m.n.length cn) (.slice pg m.g.length cg) (.bool m.s.on) (.int .i64 m.s.kind) (.bool m.s.pict) (.bool m.s.odd) (.slice pc m.c.length cc)
      unfold set9 at n9
      obtain ⟨z0, z1, z2, z3, z4, z5, z6, z7, z8⟩ := held9 n9
      refine bodyPost_ret (v := .tuple #[.agg #[.int .i64 m.kind, .string ⟨m.d.toArray⟩, .slice pn m.n.length cn, .slice pg m.g.length cg, .bool m.s.on, .int .i64 m.s.kind, .bool m.s.pict, .bool m.s.odd, .slice pc m.c.length cc], .slice none 0 0]) ?_ rfl ?_
      · skip
        simp [results, Tryz.results39, go_sem, z0, z1, z2, z3, z4, z5, z6, z7, z8]
      · have := hfin.out
        unfold set9 at this
        exact this
    · rw [if_neg h32]
      have t32 : ¬ (m.c.length : Int) = 32 := by omega
      replace h32 := Lib.hid h32
      unfold mchV strV
      have o1 := Lib.hid (ownI_lit w.heap.size W [] #[] W.heap.size 0 rfl hb0.out.size rfl rfl (by unfold maxLen; omega))
      have s1 := Lib.hid (ri_src (ri_below hvcW.out (below_new W (.cells #[] 3))))
      have b1 := Lib.hid (hb0.out.alloc hb0.out.size (.cells #[] 3))
      have r1 := Lib.hid (blk_alloc hres.out (.cells #[] 3))
      have c8 := blk_cell hbox.out 8 _ rfl
      go_enter Tryz.func39, Tryz.ntmps39
      go_upto_region 1 with (fail)
      rw [hW.out]
      go_upto_region 5 with (fail)
      have c18 : (W.alloc (.cells #[] 3)).cell? ⟨w.heap.size, 8, none⟩ = some (.slice pc m.c.length cc) := blk_cell (blk_alloc hbox.out (.cells #[] 3)) 8 _ rfl
      go_wp2_with (first | (at_builtin; refine wpList_append_src rfl _ _ 24 rfl w.heap.size 3 i0 (.int .i64 0) 8 Tryz.underlying24 hi hz0 hz1 hz2 rfl _ _ _ rfl o1.out _ _ rfl s1.out (oneCellI _) (by simp only [List.length_map, List.length_append, List.length_take, List.length_drop, List.length_cons, List.length_nil, List.length_singleton]; unfold maxLen; omega) (by simp only [List.length_map, List.length_append, List.length_take, List.length_drop, List.length_cons, List.length_nil, List.length_singleton]; omega) b1.out.size ?_; intro v2 w2 ho2 hg2; have o2 := Lib.hid (ownI_of_row (l := m.c) ho2 (by (try simp); try omega) (by (try simp); try omega)); have b2 := Lib.hid (below_row b1.out hg2 b1.out.size o1.out (Nat.le_refl _)); have r2 := Lib.hid (blk_grown r1.out hg2 (fun e => (own_box9 o1.out r1.out) e.symm)); obtain ⟨p2, c2, rfl⟩ := ri_form (ri_of_own o2.out); have o3 := Lib.hid (ownI_alloc o2.out (.cells #[.int .i64 x] 3)); have s3 := Lib.hid (ri_src (ri_of_own (ownI_lit w2.heap.size w2 [x] #[.int .i64 x] w2.heap.size 1 rfl (Nat.le_refl _) rfl rfl (by unfold maxLen; omega)))); have b3 := Lib.hid (b2.out.alloc b2.out.size (.cells #[.int .i64 x] 3)); have r3 := Lib.hid (blk_alloc r2.out (.cells #[.int .i64 x] 3)); clear ho2 hg2) | (at_builtin; refine wpList_append_src rfl _ _ 24 rfl w.heap.size 3 i0 (.int .i64 0) 8 Tryz.underlying24 hi hz0 hz1 hz2 rfl _ _ _ rfl o3.out _ _ rfl s3.out (oneCellI _) (by simp only [List.length_map, List.length_append, List.length_take, List.length_drop, List.length_cons, List.length_nil, List.length_singleton]; unfold maxLen; omega) (by simp only [List.length_map, List.length_append, List.length_take, List.length_drop, List.length_cons, List.length_nil, List.length_singleton]; omega) b3.out.size ?_; intro v4 w4 ho4 hg4; have o4 := Lib.hid (ownI_of_row (l := m.c ++ [x]) ho4 (by (try simp); try omega) (by (try simp); try omega)); have b4 := Lib.hid (below_row b3.out hg4 b3.out.size o3.out (Nat.le_refl _)); have r4 := blk_grown r3.out hg4 (fun e => (own_box9 o3.out r3.out) e.symm); obtain ⟨p4, c4, hv4⟩ := ri_form (ri_of_own o4.out); obtain ⟨l4, hl4⟩ : ∃ l4, (m.c ++ [x]).length = l4 := ⟨_, rfl⟩; rw [hl4] at hv4; subst hv4; replace hl4 := Lib.hid hl4; obtain ⟨y0, y1, y2, y3, y4, y5, y6, y7, y8⟩ := held9 r4; have f0 := blk_thaw r4 0; have f1 := blk_thaw r4 1; have f2 := blk_thaw r4 2; have f3 := blk_thaw r4 3; have f4 := blk_thaw r4 4; have f5 := blk_thaw r4 5; have f6 := blk_thaw r4 6; have f7 := blk_thaw r4 7; have f8 := blk_thaw r4 8; replace r4 := Lib.hid r4; clear ho4 hg4))
      have hfin := Lib.hid (fed_done (v := .agg #[.int .i64 m.kind, .string ⟨m.d.toArray⟩, .slice pn m.n.length cn, .slice pg m.g.length cg, .bool m.s.on, .int .i64 m.s.kind, .bool m.s.pict, .bool m.s.odd, .slice pc m.c.length cc]) (q := ({ Mch.bare 4 with c := m.c ++ [x] }, [])) r4.out (Nat.le_succ w.heap.size) (ownI_nil _ _) (ownI_nil _ _) o4.out (ownI_nil _ _) b4.out)
      have r4' := r4.out
      have n9 := blk_set9 r4' (.int .i64 4) (.string ⟨#[]⟩) nilV nilV (.bool false) (.int .i64 0) (.bool false) (.bool false) (.slice p4 l4 c4)
      unfold set9 at n9
      obtain ⟨z0, z1, z2, z3, z4, z5, z6, z7, z8⟩ := held9 n9
      refine bodyPost_ret (v := .tuple #[.agg #[.int .i64 4, .string ⟨#[]⟩, nilV, nilV, .bool false, .int .i64 0, .bool false, .bool false, .slice p4 l4 c4], .slice none 0 0]) ?_ rfl ?_
      · skip
        simp [results, Tryz.results39, go_sem, z0, z1, z2, z3, z4, z5, z6, z7, z8]
      · have := hfin.out
        unfold set9 at this
        exact this
end Go.Proofs.YtiidjkhkcckmkaaGreatDoor
