/- Layer 12: the code's copied, End. -/
import Derived.Test.YtbkgjbpnogcjeaaSgA1
import Derived.Test.YtbkgjbpnogcjeaaShelf
import Derived.Test.YtbkgjbpnogcjeaaBasP
import Derived.OrdersHeld
import Derived.Deep.RegionHeld
import Derived.Deep.DeepCutAuto
namespace Go.Proofs.Ytbkgjbpnogcjeaa
set_option linter.unusedSimpArgs false
set_option linter.unusedVariables false
open Go.RowKit Go.Lib

/-- a block of five cells is written whole -/
abbrev put5 (w : World) (k : Nat) (x0 x1 x2 x3 x4 : Value) : World := ((((w.setCell ⟨k, 0, none⟩ x0).setCell ⟨k, 1, none⟩ x1).setCell ⟨k, 2, none⟩ x2).setCell ⟨k, 3, none⟩ x3).setCell ⟨k, 4, none⟩ x4
theorem blk_put5 {w : World} {k : Nat} {a b c d e : Value} {T : TypeId} (h : Blk w k #[a, b, c, d, e] T) (x0 x1 x2 x3 x4 : Value) : Blk (put5 w k x0 x1 x2 x3 x4) k #[x0, x1, x2, x3, x4] T :=
  blk_setAt (blk_setAt (blk_setAt (blk_setAt (blk_setAt h 0 x0) 1 x1) 2 x2) 3 x3) 4 x4
theorem blk_else5 {w : World} {k j : Nat} {cs : Array Value} {T : TypeId} (h : Blk w k cs T) (x0 x1 x2 x3 x4 : Value) (hne : j ≠ k) : Blk (put5 w j x0 x1 x2 x3 x4) k cs T := by
  unfold Blk at h ⊢
  rw [heap_setCell_other _ _ _ _ (Ne.symm hne), heap_setCell_other _ _ _ _ (Ne.symm hne), heap_setCell_other _ _ _ _ (Ne.symm hne), heap_setCell_other _ _ _ _ (Ne.symm hne), heap_setCell_other _ _ _ _ (Ne.symm hne)]
  exact h
theorem below_put5 {n k : Nat} {w w1 : World} (h : Below n w w1) (hk : n ≤ k) (x0 x1 x2 x3 x4 : Value) : Below n w (put5 w1 k x0 x1 x2 x3 x4) :=
  ((((h.setCell (p := ⟨k, 0, none⟩) hk x0).setCell (p := ⟨k, 1, none⟩) hk x1).setCell (p := ⟨k, 2, none⟩) hk x2).setCell (p := ⟨k, 3, none⟩) hk x3).setCell (p := ⟨k, 4, none⟩) hk x4
theorem own_put5 {B k : Nat} {v : Value} {l : List Int} {w : World} (h : OwnI B v l w) (hne : v.ownBlock = none ∨ v.ownBlock ≠ some k) (x0 x1 x2 x3 x4 : Value) : OwnI B v l (put5 w k x0 x1 x2 x3 x4) :=
  ownI_set (ownI_set (ownI_set (ownI_set (ownI_set h _ _ hne) _ _ hne) _ _ hne) _ _ hne) _ _ hne

theorem held5_12 {w : World} {k : Nat} {a b c d e : Value} {T : TypeId} (h : Blk w k #[a, b, c, d, e] T) : w.cell? ⟨k, 0, none⟩ = some a ∧ w.cell? ⟨k, 1, none⟩ = some b ∧ w.cell? ⟨k, 2, none⟩ = some c ∧ w.cell? ⟨k, 3, none⟩ = some d ∧ w.cell? ⟨k, 4, none⟩ = some e :=
  ⟨blk_cell h 0 _ rfl, blk_cell h 1 _ rfl, blk_cell h 2 _ rfl, blk_cell h 3 _ rfl, blk_cell h 4 _ rfl⟩

/-- slices.Clone of whole numbers -/
theorem sclone_any (v : Value) (l : List Int) (w : World) (hl : l.length ≤ 100000) (hv : RI w v l) : Calls Try.prog 33 #[v] w (Makes l w) := by
  rcases hv with ⟨rfl, rfl⟩ | ⟨a, cap, rfl, hcap, hc⟩
  · refine (Try.slices_Clone_int_nil 0 0 w).mono ?_
    rintro e w' ⟨rfl, rfl⟩
    exact ⟨_, rfl, ownI_nil _ _, Below.refl _ _⟩
  · by_cases h0 : l.length = 0
    · obtain rfl : l = [] := List.eq_nil_of_length_eq_zero h0
      refine (Try.slices_Clone_int_zero a cap w).mono ?_
      rintro e w' ⟨v', rfl, h1, _, h2⟩
      exact ⟨v', rfl, h1, h2⟩
    · obtain ⟨b, off, rfl, hb, hcell⟩ := hc (by omega)
      refine (Try.slices_Clone_int b off l.length cap l w (Nat.le_refl _) (by omega) (fun j hj => by rw [hcell j hj]; simp [List.getD, hj])).mono ?_
      rintro e w' ⟨v', rfl, h1, _, h2⟩
      rw [List.take_length] at h1
      exact ⟨v', rfl, h1, h2⟩

/-- a state that may be -/
def wellS (l : List Int) (s : Clu.CS) : List Int × Clu.CS := if Sgm.saneB l s = true then (l, s) else ([], Clu.zero)
theorem well_sane (l : List Int) (s : Clu.CS) : Sgm.saneB (wellS l s).1 (wellS l s).2 = true := by
  unfold wellS
  split
  · assumption
  · decide
theorem well_feed (l : List Int) (s : Clu.CS) (r : Int) : Sgm.feedI l s r = Sgm.stepI (wellS l s).1 (wellS l s).2 r := by
  unfold Sgm.feedI wellS
  split <;> rfl
theorem well_end12 (l : List Int) (s : Clu.CS) : Sgm.endI l s = (wellS l s).1 := by
  unfold Sgm.endI wellS
  split <;> rfl

set_option maxHeartbeats 3200000 in
set_option maxRecDepth 100000 in
theorem copied12_any (v : Value) (l : List Int) (s : Clu.CS) (w : World) (hl : l.length ≤ 100000) (hv : RI w v l) : Calls Try.prog 25 #[sgV v s] w fun e w' => ∃ va, e = .returned (sgV va (wellS l s).2) ∧ OwnI w.heap.size va (wellS l s).1 w' ∧ Below w.heap.size w w' := by
  obtain ⟨p, cap, rfl⟩ := ri_form hv
  obtain ⟨on, k, pi, od⟩ := s
  unfold sgV
  dsimp only
  have hbox0 := blk_new w #[.slice p l.length cap, .bool on, .int .i64 k, .bool pi, .bool od] 30
  have hbox := blk_alloc hbox0 (.cells #[.slice none 0 0, .bool false, .int .i64 0, .bool false, .bool false] 30)
  have hres := blk_new (w.alloc (.cells #[.slice p l.length cap, .bool on, .int .i64 k, .bool pi, .bool od] 30)) #[.slice none 0 0, .bool false, .int .i64 0, .bool false, .bool false] 30
  rw [show (w.alloc (.cells #[.slice p l.length cap, .bool on, .int .i64 k, .bool pi, .bool od] 30)).heap.size = w.heap.size + 1 by simp] at hres
  have hb0 : Below w.heap.size w ((w.alloc (.cells #[.slice p l.length cap, .bool on, .int .i64 k, .bool pi, .bool od] 30)).alloc (.cells #[.slice none 0 0, .bool false, .int .i64 0, .bool false, .bool false] 30)) := (below_new w _).alloc (by simp) _
  obtain ⟨W, hW⟩ : ∃ W, (w.alloc (.cells #[.slice p l.length cap, .bool on, .int .i64 k, .bool pi, .bool od] 30)).alloc (.cells #[.slice none 0 0, .bool false, .int .i64 0, .bool false, .bool false] 30) = W := ⟨_, rfl⟩
  have hvW := ri_below hv hb0
  rw [hW] at hbox hres hb0 hvW
  have hsane := sane12_any (.slice p l.length cap) l ⟨on, k, pi, od⟩ W hl hvW
  unfold sgV at hsane
  dsimp only at hsane
  unfold wellS
  replace hbox := Lib.hid hbox
  replace hres := Lib.hid hres
  replace hb0 := Lib.hid hb0
  replace hvW := Lib.hid hvW
  replace hW := Lib.hid hW
  clear hv hbox0
  cases hS : Sgm.saneB l ⟨on, k, pi, od⟩ with
  | true =>
    rw [if_pos rfl]
    rw [hS] at hsane
    replace hsane := Lib.hid hsane
    clear hS
    dsimp only
    go_enter Try.func25, Try.ntmps25
    go_upto_region 1 with (fail)
    rw [hW.out]
    have b0 := blk_cell hbox.out 0 _ rfl
    have b1 := blk_cell hbox.out 1 _ rfl
    have b2 := blk_cell hbox.out 2 _ rfl
    have b3 := blk_cell hbox.out 3 _ rfl
    have b4 := blk_cell hbox.out 4 _ rfl
    go_wp2_with fail
    refine hsane.out.mono ?_
    rintro e w2 ⟨rfl, hb2⟩
    have hbx2 := blk_below hbox.out hb2
    have c0 := blk_cell hbx2 0 _ rfl
    have hcl := Lib.hid (sclone_any (.slice p l.length cap) l w2.drew (by omega) (ri_drew (ri_below hvW.out hb2)))
    have hr2 := Lib.hid (blk_below hres.out hb2)
    replace hb2 := Lib.hid (hb0.out.trans (hb2.mono hb0.out.size))
    replace hbx2 := Lib.hid hbx2
    clear b0 b1 b2 b3 b4 c0
    go_wp2_with fail
    refine wp_region_held_drew (S := fun w' => w'.cell? ⟨w.heap.size, 0, none⟩ = some (.slice p l.length cap) ∧ w'.cell? ⟨w.heap.size, 1, none⟩ = some (.bool on) ∧ w'.cell? ⟨w.heap.size, 2, none⟩ = some (.int .i64 k) ∧ w'.cell? ⟨w.heap.size, 3, none⟩ = some (.bool pi) ∧ w'.cell? ⟨w.heap.size, 4, none⟩ = some (.bool od)) (by kernel_rfl) (held5_12 hbx2.out) (fun hS => ?_)
    refine' wpAnyH_take (i := 0) (oi := ⟨_, _, _, _, _, _⟩) (v := _) rfl (by kernel_rfl) (by kernel_rfl) (by kernel_rfl) (fun _ _ _ h => h) (Or.inl ⟨by rfl, ?hy0⟩) hS ?rest0
    case hy0 => (intro wz hSw; (try dsimp only at hSw); go_simp; try with_reducible rfl)
    try simp only [Act.put, List.setIfInBounds_toArray, List.set_cons_zero, List.set_cons_succ]
    refine' wpAnyH_take (i := 1) (oi := ⟨_, _, _, _, _, _⟩) (v := _) rfl (by kernel_rfl) (by kernel_rfl) (by kernel_rfl) (fun _ _ _ h => h) (Or.inl ⟨by rfl, ?hy1⟩) hS ?rest1
    case hy1 => (intro wz hSw; (try dsimp only at hSw); go_simp; try with_reducible rfl)
    try simp only [Act.put, List.setIfInBounds_toArray, List.set_cons_zero, List.set_cons_succ]
    refine' wpAnyH_take (i := 3) (oi := ⟨_, _, _, _, _, _⟩) (v := _) rfl (by kernel_rfl) (by kernel_rfl) (by kernel_rfl) (fun _ _ _ h => h) (Or.inl ⟨by rfl, ?hy3⟩) hS ?rest3
    case hy3 => (intro wz hSw; (try dsimp only at hSw); go_simp; try with_reducible rfl)
    try simp only [Act.put, List.setIfInBounds_toArray, List.set_cons_zero, List.set_cons_succ]
    refine' wpAnyH_take (i := 4) (oi := ⟨_, _, _, _, _, _⟩) (v := _) rfl (by kernel_rfl) (by kernel_rfl) (by kernel_rfl) (fun _ _ _ h => h) (Or.inl ⟨by rfl, ?hy4⟩) hS ?rest4
    case hy4 => (intro wz hSw; (try dsimp only at hSw); go_simp; try with_reducible rfl)
    try simp only [Act.put, List.setIfInBounds_toArray, List.set_cons_zero, List.set_cons_succ]
    refine wpAnyH_ready (rs := [2]) (by kernel_rfl) (by simp) (AllReadyH.cons rfl (fun K hK => ?_) AllReadyH.nil)
    go_simp
    go_at_call 33
    refine hcl.out.mono ?_
    rintro e w3 ⟨v3, rfl, ho3, hb3⟩
    have hr3 := blk_below (w := w2.drew) hr2.out hb3
    have hx3 := Lib.hid (blk_below (w := w2.drew) hbx2.out hb3)
    go_wp2_with fail
    refine hK.out _ _ (held5_12 hx3.out) (fun hSn => ?_)
    clear hS
    have hS := hSn
    clear hSn
    clear hK K
    try simp only [Act.put, List.setIfInBounds_toArray, List.set_cons_zero, List.set_cons_succ]
    obtain ⟨p3, q3, rfl⟩ := ri_form (ri_of_own ho3)
    have hlt : w.heap.size + 1 < w2.heap.size := blk_lt hr2.out
    have hn3 := Lib.hid (blk_put5 hr3 (.slice p3 l.length q3) (.bool on) (.int .i64 k) (.bool pi) (.bool od))
    have ho4 := Lib.hid (ownI_mono (own_put5 ho3 (ownI_ne ho3 hlt) (.slice p3 l.length q3) (.bool on) (.int .i64 k) (.bool pi) (.bool od)) (show w.heap.size ≤ w2.heap.size by omega))
    have hb4 := Lib.hid (below_put5 (below_on (show Below w.heap.size w w2.drew from hb2.out.drew) hb3) (Nat.le_succ w.heap.size) (.slice p3 l.length q3) (.bool on) (.int .i64 k) (.bool pi) (.bool od))
    have c30 := blk_cell hr3 0 _ rfl
    have c31 := blk_cell hr3 1 _ rfl
    have c32 := blk_cell hr3 2 _ rfl
    have c33 := blk_cell hr3 3 _ rfl
    have c34 := blk_cell hr3 4 _ rfl
    have f30 := blk_thaw hr3 0
    have f31 := blk_thaw hr3 1
    have f32 := blk_thaw hr3 2
    have f33 := blk_thaw hr3 3
    have f34 := blk_thaw hr3 4
    replace hr3 := Lib.hid hr3
    clear hb3 ho3
    refine' wpAnyH_take (i := 5) (oi := ⟨_, _, _, _, _, _⟩) (v := _) rfl (by kernel_rfl) (by kernel_rfl) (by kernel_rfl) (fun _ _ _ h => h) (Or.inl ⟨by rfl, ?hy5⟩) hS ?rest5
    case hy5 => (intro wz hSw; (try dsimp only at hSw); go_simp; try with_reducible rfl)
    try simp only [Act.put, List.setIfInBounds_toArray, List.set_cons_zero, List.set_cons_succ]
    refine wpAnyH_ready (rs := [6]) (by kernel_rfl) (by simp) (AllReadyH.cons rfl (fun K hK => ?_) AllReadyH.nil)
    go_simp
    go_wp2_with fail
    refine hK.out _ _ (held5_12 (blk_else5 hx3.out _ _ _ _ _ (by omega))) (fun hSn => ?_)
    clear hS
    have hS := hSn
    clear hSn
    clear hK K
    try simp only [Act.put, List.setIfInBounds_toArray, List.set_cons_zero, List.set_cons_succ]
    refine wpAnyH_done (by kernel_rfl) ?_ _
    go_wp2_with fail
    have d0 := blk_cell hn3.out 0 _ rfl
    have d1 := blk_cell hn3.out 1 _ rfl
    have d2 := blk_cell hn3.out 2 _ rfl
    have d3 := blk_cell hn3.out 3 _ rfl
    have d4 := blk_cell hn3.out 4 _ rfl
    refine bodyPost_ret (v := .agg #[.slice p3 l.length q3, .bool on, .int .i64 k, .bool pi, .bool od]) ?_ rfl ⟨_, rfl, ho4.out, hb4.out⟩
    simp [results, Try.results25, go_sem, d0, d1, d2, d3, d4]
  | false =>
    rw [if_neg (by simp)]
    rw [hS] at hsane
    replace hsane := Lib.hid hsane
    clear hS
    unfold Clu.zero
    dsimp only
    go_enter Try.func25, Try.ntmps25
    go_upto_region 1 with (fail)
    rw [hW.out]
    have b0 := blk_cell hbox.out 0 _ rfl
    have b1 := blk_cell hbox.out 1 _ rfl
    have b2 := blk_cell hbox.out 2 _ rfl
    have b3 := blk_cell hbox.out 3 _ rfl
    have b4 := blk_cell hbox.out 4 _ rfl
    go_wp2_with fail
    refine hsane.out.mono ?_
    rintro e w2 ⟨rfl, hb2⟩
    have hr2 := blk_below hres.out hb2
    have c20 := blk_cell hr2 0 _ rfl
    have c21 := blk_cell hr2 1 _ rfl
    have c22 := blk_cell hr2 2 _ rfl
    have c23 := blk_cell hr2 3 _ rfl
    have c24 := blk_cell hr2 4 _ rfl
    have f20 := blk_thaw hr2 0
    have f21 := blk_thaw hr2 1
    have f22 := blk_thaw hr2 2
    have f23 := blk_thaw hr2 3
    have f24 := blk_thaw hr2 4
    have hn2 := Lib.hid (blk_put5 hr2 (.slice none 0 0) (.bool false) (.int .i64 0) (.bool false) (.bool false))
    have hb4 := Lib.hid (below_put5 (hb0.out.trans (hb2.mono hb0.out.size)) (Nat.le_succ w.heap.size) (.slice none 0 0) (.bool false) (.int .i64 0) (.bool false) (.bool false))
    replace hr2 := Lib.hid hr2
    clear b0 b1 b2 b3 b4 hb2
    go_wp2_with fail
    have d0 := blk_cell hn2.out 0 _ rfl
    have d1 := blk_cell hn2.out 1 _ rfl
    have d2 := blk_cell hn2.out 2 _ rfl
    have d3 := blk_cell hn2.out 3 _ rfl
    have d4 := blk_cell hn2.out 4 _ rfl
    refine bodyPost_ret (v := .agg #[.slice none 0 0, .bool false, .int .i64 0, .bool false, .bool false]) ?_ rfl ⟨_, rfl, ownI_nil _ _, hb4.out⟩
    simp [results, Try.results25, go_sem, d0, d1, d2, d3, d4]

set_option maxHeartbeats 3200000 in
set_option maxRecDepth 100000 in
theorem end12_any (v : Value) (l : List Int) (s : Clu.CS) (w : World) (hl : l.length ≤ 100000) (hv : RI w v l) : Calls Try.prog 17 #[sgV v s] w fun e w' => ∃ va, e = .returned va ∧ OwnI w.heap.size va (Sgm.endI l s) w' ∧ Below w.heap.size w w' := by
  rw [well_end12]
  obtain ⟨p, cap, rfl⟩ := ri_form hv
  have hbx := Lib.hid (blk_new w #[.slice p l.length cap, .bool s.on, .int .i64 s.kind, .bool s.pict, .bool s.odd] 30)
  have hcop := copied12_any (.slice p l.length cap) l s (w.alloc (.cells #[.slice p l.length cap, .bool s.on, .int .i64 s.kind, .bool s.pict, .bool s.odd] 30)) hl (ri_below hv (below_new w _))
  have hbel := Lib.hid (below_new w (.cells #[.slice p l.length cap, .bool s.on, .int .i64 s.kind, .bool s.pict, .bool s.odd] 30))
  obtain ⟨L, hL⟩ : ∃ L, wellS l s = L := ⟨_, rfl⟩
  rw [hL] at hcop ⊢
  obtain ⟨L, t⟩ := L
  obtain ⟨on, k, pi, od⟩ := s
  obtain ⟨ton, tk, tpi, tod⟩ := t
  unfold sgV at hcop ⊢
  dsimp only at hcop hbel ⊢
  replace hcop := Lib.hid hcop
  clear hL hv
  go_enter Try.func17, Try.ntmps17
  go_wp2_with fail
  refine hcop.out.mono ?_
  rintro e w2 ⟨va, rfl, ho, hb2⟩
  obtain ⟨pa, qa, rfl⟩ := ri_form (ri_of_own ho)
  replace hb2 := Lib.hid (below_on hbel.out hb2)
  replace ho := Lib.hid (ownI_mono ho (show w.heap.size ≤ _ by simp))
  have hfa : ∀ (p1 : Option Addr) (n1 c1 : Nat) (b1 b2 b3 : Bool) (k1 : Int) (W : World), (Instr.field 30 (.agg #[.slice p1 n1 c1, .bool b1, .int .i64 k1, .bool b2, .bool b3]) 0).run Try.prog W = .ok (.slice p1 n1 c1) W := fun _ _ _ _ _ _ _ _ => by kernel_rfl
  go_wp2_with fail
  go_ret
  exact ⟨_, rfl, ho.out, hb2.out⟩

end Go.Proofs.Ytbkgjbpnogcjeaa
