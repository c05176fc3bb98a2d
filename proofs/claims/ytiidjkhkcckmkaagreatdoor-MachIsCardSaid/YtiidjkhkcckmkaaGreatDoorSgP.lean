/- Texts that stand together. -/
import Derived.Test.YtiidjkhkcckmkaaGreatDoorClP
import Derived.Test.YtiidjkhkcckmkaaGreatDoorMatP
import Derived.Test.YtiidjkhkcckmkaaGreatDoorBasQ
import Derived.Test.YtiidjkhkcckmkaaGreatDoorBasP
import Derived.Test.YtiidjkhkcckmkaaGreatDoorKP
import Derived.Test.YtiidjkhkcckmkaaGreatDoorShelf
import Derived.Deep.RegionHeld3
import Derived.WalkKit
import Derived.OrdersHeld
import Derived.Deep.RegionHeld
import Derived.Deep.DeepCutAuto
/- Layer 12: the code's Sane. -/
namespace Go.Proofs.YtiidjkhkcckmkaaGreatDoor
set_option linter.unusedSimpArgs false
set_option linter.unusedVariables false
open Go.RowKit Go.Lib
set_option maxHeartbeats 6400000 in
set_option maxRecDepth 100000 in
theorem sane12_any (v : Value) (l : List Int) (s : Clu.CS) (w : World) (hl : l.length ≤ 100000) (hv : RI w v l) : Calls Tryz.prog 49 #[sgV v s] w fun e w' => e = .returned (.bool (Sgm.saneB l s)) ∧ Below w.heap.size w w' := by
  obtain ⟨p, cap, rfl⟩ := ri_form hv
  have hsane := fun W => csane_any s W
  obtain ⟨R, hR⟩ : ∃ R, Sgm.saneB l s = R := ⟨_, rfl⟩
  rw [hR]
  unfold Sgm.saneB at hR
  obtain ⟨S, hS⟩ : ∃ S, Clu.saneB s = S := ⟨_, rfl⟩
  rw [hS] at hR hsane
  obtain ⟨on, k, pi, o⟩ := s
  have hle : l.isEmpty = decide (l.length = 0) := by cases l <;> simp
  rw [hle] at hR
  obtain ⟨n, hn⟩ : ∃ n, l.length = n := ⟨_, rfl⟩
  rw [hn] at hR hl ⊢
  unfold sgV
  unfold csV at hsane
  dsimp only at hsane hR ⊢
  clear hS hv hle hn
  have h0 : n = 0 ∨ 0 < n := Nat.eq_zero_or_pos n
  have h32 : n ≤ 32 ∨ ¬ n ≤ 32 := by omega
  replace hsane := Lib.hid hsane
  replace hR := Lib.hid hR
  rcases h0 with rfl | h0
  ·
    
    have hb := Lib.hid (blk_new w #[.slice p 0 cap, .bool on, .int .i64 k, .bool pi, .bool o] 39)
    have hbel := Lib.hid (below_new w (.cells #[.slice p 0 cap, .bool on, .int .i64 k, .bool pi, .bool o] 39))
    rcases S with _ | _
    all_goals
      go_enter Tryz.func49, Tryz.ntmps49
      go_wp2_with (go_at_call 81; refine (hsane.out _).mono ?_; rintro e w1 ⟨rfl, hb1⟩; have hb1' := Lib.hid (below_on hbel.out hb1); have x1 := blk_below hb.out hb1; have c0 := blk_cell x1 0 (.slice p 0 cap) rfl; have c1 := blk_cell x1 1 (.bool on) rfl; replace x1 := Lib.hid x1)
    all_goals
      go_ret
      refine ⟨ret_bool ?_, by first | exact hb1'.out | exact hbel.out⟩
      rw [← hR.out]
      first | (simp [*]; done) | (simp_all; done) | (simp_all; omega) | (clear hR hsane; cases on <;> simp_all; done) | (clear hR hsane; cases on <;> simp_all <;> omega) | (trace_state; sorry)
  · rcases h32 with h32 | h32
    ·
      
      have hb := Lib.hid (blk_new w #[.slice p n cap, .bool on, .int .i64 k, .bool pi, .bool o] 39)
      have hbel := Lib.hid (below_new w (.cells #[.slice p n cap, .bool on, .int .i64 k, .bool pi, .bool o] 39))
      rcases S with _ | _
      all_goals
        go_enter Tryz.func49, Tryz.ntmps49
        go_wp2_with (go_at_call 81; refine (hsane.out _).mono ?_; rintro e w1 ⟨rfl, hb1⟩; have hb1' := Lib.hid (below_on hbel.out hb1); have x1 := blk_below hb.out hb1; have c0 := blk_cell x1 0 (.slice p n cap) rfl; have c1 := blk_cell x1 1 (.bool on) rfl; replace x1 := Lib.hid x1)
      all_goals
        go_ret
        refine ⟨ret_bool ?_, by first | exact hb1'.out | exact hbel.out⟩
        rw [← hR.out]
        first | (simp [*]; done) | (simp_all; done) | (simp_all; omega) | (clear hR hsane; cases on <;> simp_all; done) | (clear hR hsane; cases on <;> simp_all <;> omega) | (trace_state; sorry)
    ·
      
      have hb := Lib.hid (blk_new w #[.slice p n cap, .bool on, .int .i64 k, .bool pi, .bool o] 39)
      have hbel := Lib.hid (below_new w (.cells #[.slice p n cap, .bool on, .int .i64 k, .bool pi, .bool o] 39))
      rcases S with _ | _
      all_goals
        go_enter Tryz.func49, Tryz.ntmps49
        go_wp2_with (go_at_call 81; refine (hsane.out _).mono ?_; rintro e w1 ⟨rfl, hb1⟩; have hb1' := Lib.hid (below_on hbel.out hb1); have x1 := blk_below hb.out hb1; have c0 := blk_cell x1 0 (.slice p n cap) rfl; have c1 := blk_cell x1 1 (.bool on) rfl; replace x1 := Lib.hid x1)
      all_goals
        go_ret
        refine ⟨ret_bool ?_, by first | exact hb1'.out | exact hbel.out⟩
        rw [← hR.out]
        first | (simp [*]; done) | (simp_all; done) | (simp_all; omega) | (clear hR hsane; cases on <;> simp_all; done) | (clear hR hsane; cases on <;> simp_all <;> omega) | (trace_state; sorry)
end Go.Proofs.YtiidjkhkcckmkaaGreatDoor

/- Layer 12: the code's copied, End. -/
namespace Go.Proofs.YtiidjkhkcckmkaaGreatDoor
set_option linter.unusedSimpArgs false
set_option linter.unusedVariables false
open Go.RowKit Go.Lib
abbrev put5 (w : World) (k : Nat) (x0 x1 x2 x3 x4 : Value) : World := ((((w.setCell ⟨k, 0, none⟩ x0).setCell ⟨k, 1, none⟩ x1).setCell ⟨k, 2, none⟩ x2).setCell ⟨k, 3, none⟩ x3).setCell ⟨k, 4, none⟩ x4
theorem blk_put5 {w : World} {k : Nat} {a b c d e : Value} {T : TypeId} (h : Blk w k #[a, b, c, d, e] T) (x0 x1 x2 x3 x4 : Value) : Blk (put5 w k x0 x1 x2 x3 x4) k #[x0, x1, x2, x3, x4] T :=
  blk_setAt (blk_setAt (blk_setAt (blk_setAt (blk_setAt h 0 x0) 1 x1) 2 x2) 3 x3) 4 x4
theorem blk_else5 {w : World} {k j : Nat} {cs : Array Value} {T : TypeId} (h : Blk w k cs T) (x0 x1 x2 x3 x4 : Value) (hne : j ≠ k) : Blk (put5 w j x0 x1 x2 x3 x4) k cs T := by
  unfold Blk at h ⊢
  rw [heap_setCell_other _ _ _ _ (Ne.symm hne), heap_setCell_other _ _ _ _ (Ne.symm hne), heap_setCell_other _ _ _ _ (Ne.symm hne), heap_setCell_other _ _ _ _ (Ne.symm hne), heap_setCell_other _ _ _ _ (Ne.symm hne)]
  exact h
theorem below_put5 {n k : Nat} {w w1 : World} (h : Below n w w1) (hk : n ≤ k) (x0 x1 x2 x3 x4 : Value) : Below n w (put5 w1 k x0 x1 x2 x3 x4) :=
  ((((h.setCell (p := ⟨k, 0, none⟩) hk x0).setCell (p := ⟨k, 1, none⟩) hk x1).setCell (p := ⟨k, 2, none⟩) hk x2).setCell (p := ⟨k, 3, none⟩) hk x3).setCell (p := ⟨k, 4, none⟩) hk x4
theorem own_put5 {B k : Nat} {v : Value} {l : List Int} {w : World} (h : OwnI B v l w) (hne : v.ownBlock = none ∨ v.ownBlock ≠ some k) (x0 x1 x2 x3 x4 : Value) : OwnI B v l (put5 w k x0 x1 x2 x3 x4) :=
  ownI_set (ownI_set (ownI_set (ownI_set (ownI_set h _ _ hne) _ _ hne) _ _ hne) _ _ hne) _ _ hne
theorem held5_12 {w : World} {k : Nat} {a b c d e : Value} {T : TypeId} (h : Blk w k #[a, b, c, d, e] T) : w.cell? ⟨k, 0, none⟩ = some a ∧ w.cell? ⟨k, 1, none⟩ = some b ∧ w.cell? ⟨k, 2, none⟩ = some c ∧ w.cell? ⟨k, 3, none⟩ = some d ∧ w.cell? ⟨k, 4, none⟩ = some e :=
  ⟨blk_cell h 0 _ rfl, blk_cell h 1 _ rfl, blk_cell h 2 _ rfl, blk_cell h 3 _ rfl, blk_cell h 4 _ rfl⟩
theorem sclone_any (v : Value) (l : List Int) (w : World) (hl : l.length ≤ 100000) (hv : RI w v l) : Calls Tryz.prog 63 #[v] w (Makes l w) := by
  rcases hv with ⟨rfl, rfl⟩ | ⟨a, cap, rfl, hcap, hc⟩
  · refine (Tryz.slices_Clone_int_nil 0 0 w).mono ?_
    rintro e w' ⟨rfl, rfl⟩
    exact ⟨_, rfl, ownI_nil _ _, Below.refl _ _⟩
  · by_cases h0 : l.length = 0
    · obtain rfl : l = [] := List.eq_nil_of_length_eq_zero h0
      refine (Tryz.slices_Clone_int_zero a cap w).mono ?_
      rintro e w' ⟨v', rfl, h1, _, h2⟩
      exact ⟨v', rfl, h1, h2⟩
    · obtain ⟨b, off, rfl, hb, hcell⟩ := hc (by omega)
      refine (Tryz.slices_Clone_int b off l.length cap l w (Nat.le_refl _) (by omega) (fun j hj => by rw [hcell j hj]; simp [List.getD, hj])).mono ?_
      rintro e w' ⟨v', rfl, h1, _, h2⟩
      rw [List.take_length] at h1
      exact ⟨v', rfl, h1, h2⟩
def wellS (l : List Int) (s : Clu.CS) : List Int × Clu.CS := if Sgm.saneB l s = true then (l, s) else ([], Clu.zero)
theorem well_sane (l : List Int) (s : Clu.CS) : Sgm.saneB (wellS l s).1 (wellS l s).2 = true := by
  unfold wellS
  split
  · assumption
  · decide
theorem well_feed (l : List Int) (s : Clu.CS) (r : Int) : Sgm.feedI l s r = Sgm.stepI (wellS l s).1 (wellS l s).2 r := by
  unfold Sgm.feedI wellS
  split <;> rfl
theorem well_end12 (l : List Int) (s : Clu.CS) : Sgm.endI l s = (wellS l s).1 := by
  unfold Sgm.endI wellS
  split <;> rfl
set_option maxHeartbeats 3200000 in
set_option maxRecDepth 100000 in
theorem copied12_any (v : Value) (l : List Int) (s : Clu.CS) (w : World) (hl : l.length ≤ 100000) (hv : RI w v l) : Calls Tryz.prog 99 #[sgV v s] w fun e w' => ∃ va, e = .returned (sgV va (wellS l s).2) ∧ OwnI w.heap.size va (wellS l s).1 w' ∧ Below w.heap.size w w' := by
  obtain ⟨p, cap, rfl⟩ := ri_form hv
  obtain ⟨on, k, pi, od⟩ := s
  unfold sgV
  dsimp only
  have hbox0 := blk_new w #[.slice p l.length cap, .bool on, .int .i64 k, .bool pi, .bool od] 39
  have hbox := blk_alloc hbox0 (.cells #[.slice none 0 0, .bool false, .int .i64 0, .bool false, .bool false] 39)
  have hres := blk_new (w.alloc (.cells #[.slice p l.length cap, .bool on, .int .i64 k, .bool pi, .bool od] 39)) #[.slice none 0 0, .bool false, .int .i64 0, .bool false, .bool false] 39
  rw [show (w.alloc (.cells #[.slice p l.length cap, .bool on, .int .i64 k, .bool pi, .bool od] 39)).heap.size = w.heap.size + 1 by simp] at hres
  have hb0 : Below w.heap.size w ((w.alloc (.cells #[.slice p l.length cap, .bool on, .int .i64 k, .bool pi, .bool od] 39)).alloc (.cells #[.slice none 0 0, .bool false, .int .i64 0, .bool false, .bool false] 39)) := (below_new w _).alloc (by simp) _
  obtain ⟨W, hW⟩ : ∃ W, (w.alloc (.cells #[.slice p l.length cap, .bool on, .int .i64 k, .bool pi, .bool od] 39)).alloc (.cells #[.slice none 0 0, .bool false, .int .i64 0, .bool false, .bool false] 39) = W := ⟨_, rfl⟩
  have hvW := ri_below hv hb0
  rw [hW] at hbox hres hb0 hvW
  have hsane := sane12_any (.slice p l.length cap) l ⟨on, k, pi, od⟩ W hl hvW
  unfold sgV at hsane
  dsimp only at hsane
  unfold wellS
  replace hbox := Lib.hid hbox
  replace hres := Lib.hid hres
  replace hb0 := Lib.hid hb0
  replace hvW := Lib.hid hvW
  replace hW := Lib.hid hW
  clear hv hbox0
  cases hS : Sgm.saneB l ⟨on, k, pi, od⟩ with
  | true =>
    rw [if_pos rfl]
    rw [hS] at hsane
    replace hsane := Lib.hid hsane
    clear hS
    dsimp only
    go_enter Tryz.func99, Tryz.ntmps99
    go_upto_region 1 with (fail)
    rw [hW.out]
    have b0 := blk_cell hbox.out 0 _ rfl
    have b1 := blk_cell hbox.out 1 _ rfl
    have b2 := blk_cell hbox.out 2 _ rfl
    have b3 := blk_cell hbox.out 3 _ rfl
    have b4 := blk_cell hbox.out 4 _ rfl
    go_wp2_with fail
    refine hsane.out.mono ?_
    rintro e w2 ⟨rfl, hb2⟩
    have hbx2 := blk_below hbox.out hb2
    have c0 := blk_cell hbx2 0 _ rfl
    have hcl := Lib.hid (sclone_any (.slice p l.length cap) l w2.drew (by omega) (ri_drew (ri_below hvW.out hb2)))
    have hr2 := Lib.hid (blk_below hres.out hb2)
    replace hb2 := Lib.hid (hb0.out.trans (hb2.mono hb0.out.size))
    replace hbx2 := Lib.hid hbx2
    clear b0 b1 b2 b3 b4 c0
    go_wp2_with fail
    refine wp_region_held_drew (S := fun w' => w'.cell? ⟨w.heap.size, 0, none⟩ = some (.slice p l.length cap) ∧ w'.cell? ⟨w.heap.size, 1, none⟩ = some (.bool on) ∧ w'.cell? ⟨w.heap.size, 2, none⟩ = some (.int .i64 k) ∧ w'.cell? ⟨w.heap.size, 3, none⟩ = some (.bool pi) ∧ w'.cell? ⟨w.heap.size, 4, none⟩ = some (.bool od)) (by kernel_rfl) (held5_12 hbx2.out) (fun hS => ?_)
    refine' wpAnyH_take (i := 0) (oi := ⟨_, _, _, _, _, _⟩) (v := _) rfl (by kernel_rfl) (by kernel_rfl) (by kernel_rfl) (fun _ _ _ h => h) (Or.inl ⟨by rfl, ?hy0⟩) hS ?rest0
    case hy0 => (intro wz hSw; (try dsimp only at hSw); go_simp; try with_reducible rfl)
    try simp only [Act.put, List.setIfInBounds_toArray, List.set_cons_zero, List.set_cons_succ]
    refine' wpAnyH_take (i := 1) (oi := ⟨_, _, _, _, _, _⟩) (v := _) rfl (by kernel_rfl) (by kernel_rfl) (by kernel_rfl) (fun _ _ _ h => h) (Or.inl ⟨by rfl, ?hy1⟩) hS ?rest1
    case hy1 => (intro wz hSw; (try dsimp only at hSw); go_simp; try with_reducible rfl)
    try simp only [Act.put, List.setIfInBounds_toArray, List.set_cons_zero, List.set_cons_succ]
    refine' wpAnyH_take (i := 3) (oi := ⟨_, _, _, _, _, _⟩) (v := _) rfl (by kernel_rfl) (by kernel_rfl) (by kernel_rfl) (fun _ _ _ h => h) (Or.inl ⟨by rfl, ?hy3⟩) hS ?rest3
    case hy3 => (intro wz hSw; (try dsimp only at hSw); go_simp; try with_reducible rfl)
    try simp only [Act.put, List.setIfInBounds_toArray, List.set_cons_zero, List.set_cons_succ]
    refine' wpAnyH_take (i := 4) (oi := ⟨_, _, _, _, _, _⟩) (v := _) rfl (by kernel_rfl) (by kernel_rfl) (by kernel_rfl) (fun _ _ _ h => h) (Or.inl ⟨by rfl, ?hy4⟩) hS ?rest4
    case hy4 => (intro wz hSw; (try dsimp only at hSw); go_simp; try with_reducible rfl)
    try simp only [Act.put, List.setIfInBounds_toArray, List.set_cons_zero, List.set_cons_succ]
    refine wpAnyH_ready (rs := [2]) (by kernel_rfl) (by simp) (AllReadyH.cons rfl (fun K hK => ?_) AllReadyH.nil)
    go_simp
    go_at_call 63
    refine hcl.out.mono ?_
    rintro e w3 ⟨v3, rfl, ho3, hb3⟩
    have hr3 := blk_below (w := w2.drew) hr2.out hb3
    have hx3 := Lib.hid (blk_below (w := w2.drew) hbx2.out hb3)
    go_wp2_with fail
    refine hK.out _ _ (held5_12 hx3.out) (fun hSn => ?_)
    clear hS
    have hS := hSn
    clear hSn
    clear hK K
    try simp only [Act.put, List.setIfInBounds_toArray, List.set_cons_zero, List.set_cons_succ]
    obtain ⟨p3, q3, rfl⟩ := ri_form (ri_of_own ho3)
    have hlt : w.heap.size + 1 < w2.heap.size := blk_lt hr2.out
    have hn3 := Lib.hid (blk_put5 hr3 (.slice p3 l.length q3) (.bool on) (.int .i64 k) (.bool pi) (.bool od))
    have ho4 := Lib.hid (ownI_mono (own_put5 ho3 (ownI_ne ho3 hlt) (.slice p3 l.length q3) (.bool on) (.int .i64 k) (.bool pi) (.bool od)) (show w.heap.size ≤ w2.heap.size by omega))
    have hb4 := Lib.hid (below_put5 (below_on (show Below w.heap.size w w2.drew from hb2.out.drew) hb3) (Nat.le_succ w.heap.size) (.slice p3 l.length q3) (.bool on) (.int .i64 k) (.bool pi) (.bool od))
    have c30 := blk_cell hr3 0 _ rfl
    have c31 := blk_cell hr3 1 _ rfl
    have c32 := blk_cell hr3 2 _ rfl
    have c33 := blk_cell hr3 3 _ rfl
    have c34 := blk_cell hr3 4 _ rfl
    have f30 := blk_thaw hr3 0
    have f31 := blk_thaw hr3 1
    have f32 := blk_thaw hr3 2
    have f33 := blk_thaw hr3 3
    have f34 := blk_thaw hr3 4
    replace hr3 := Lib.hid hr3
    clear hb3 ho3
    refine' wpAnyH_take (i := 5) (oi := ⟨_, _, _, _, _, _⟩) (v := _) rfl (by kernel_rfl) (by kernel_rfl) (by kernel_rfl) (fun _ _ _ h => h) (Or.inl ⟨by rfl, ?hy5⟩) hS ?rest5
    case hy5 => (intro wz hSw; (try dsimp only at hSw); go_simp; try with_reducible rfl)
    try simp only [Act.put, List.setIfInBounds_toArray, List.set_cons_zero, List.set_cons_succ]
    refine wpAnyH_ready (rs := [6]) (by kernel_rfl) (by simp) (AllReadyH.cons rfl (fun K hK => ?_) AllReadyH.nil)
    go_simp
    go_wp2_with fail
    refine hK.out _ _ (held5_12 (blk_else5 hx3.out _ _ _ _ _ (by omega))) (fun hSn => ?_)
    clear hS
    have hS := hSn
    clear hSn
    clear hK K
    try simp only [Act.put, List.setIfInBounds_toArray, List.set_cons_zero, List.set_cons_succ]
    refine wpAnyH_done (by kernel_rfl) ?_ _
    go_wp2_with fail
    have d0 := blk_cell hn3.out 0 _ rfl
    have d1 := blk_cell hn3.out 1 _ rfl
    have d2 := blk_cell hn3.out 2 _ rfl
    have d3 := blk_cell hn3.out 3 _ rfl
    have d4 := blk_cell hn3.out 4 _ rfl
    refine bodyPost_ret (v := .agg #[.slice p3 l.length q3, .bool on, .int .i64 k, .bool pi, .bool od]) ?_ rfl ⟨_, rfl, ho4.out, hb4.out⟩
    simp [results, Tryz.results99, go_sem, d0, d1, d2, d3, d4]
  | false =>
    rw [if_neg (by simp)]
    rw [hS] at hsane
    replace hsane := Lib.hid hsane
    clear hS
    unfold Clu.zero
    dsimp only
    go_enter Tryz.func99, Tryz.ntmps99
    go_upto_region 1 with (fail)
    rw [hW.out]
    have b0 := blk_cell hbox.out 0 _ rfl
    have b1 := blk_cell hbox.out 1 _ rfl
    have b2 := blk_cell hbox.out 2 _ rfl
    have b3 := blk_cell hbox.out 3 _ rfl
    have b4 := blk_cell hbox.out 4 _ rfl
    go_wp2_with fail
    refine hsane.out.mono ?_
    rintro e w2 ⟨rfl, hb2⟩
    have hr2 := blk_below hres.out hb2
    have c20 := blk_cell hr2 0 _ rfl
    have c21 := blk_cell hr2 1 _ rfl
    have c22 := blk_cell hr2 2 _ rfl
    have c23 := blk_cell hr2 3 _ rfl
    have c24 := blk_cell hr2 4 _ rfl
    have f20 := blk_thaw hr2 0
    have f21 := blk_thaw hr2 1
    have f22 := blk_thaw hr2 2
    have f23 := blk_thaw hr2 3
    have f24 := blk_thaw hr2 4
    have hn2 := Lib.hid (blk_put5 hr2 (.slice none 0 0) (.bool false) (.int .i64 0) (.bool false) (.bool false))
    have hb4 := Lib.hid (below_put5 (hb0.out.trans (hb2.mono hb0.out.size)) (Nat.le_succ w.heap.size) (.slice none 0 0) (.bool false) (.int .i64 0) (.bool false) (.bool false))
    replace hr2 := Lib.hid hr2
    clear b0 b1 b2 b3 b4 hb2
    go_wp2_with fail
    have d0 := blk_cell hn2.out 0 _ rfl
    have d1 := blk_cell hn2.out 1 _ rfl
    have d2 := blk_cell hn2.out 2 _ rfl
    have d3 := blk_cell hn2.out 3 _ rfl
    have d4 := blk_cell hn2.out 4 _ rfl
    refine bodyPost_ret (v := .agg #[.slice none 0 0, .bool false, .int .i64 0, .bool false, .bool false]) ?_ rfl ⟨_, rfl, ownI_nil _ _, hb4.out⟩
    simp [results, Tryz.results99, go_sem, d0, d1, d2, d3, d4]
set_option maxHeartbeats 3200000 in
set_option maxRecDepth 100000 in
theorem end12_any (v : Value) (l : List Int) (s : Clu.CS) (w : World) (hl : l.length ≤ 100000) (hv : RI w v l) : Calls Tryz.prog 75 #[sgV v s] w fun e w' => ∃ va, e = .returned va ∧ OwnI w.heap.size va (Sgm.endI l s) w' ∧ Below w.heap.size w w' := by
  rw [well_end12]
  obtain ⟨p, cap, rfl⟩ := ri_form hv
  have hbx := Lib.hid (blk_new w #[.slice p l.length cap, .bool s.on, .int .i64 s.kind, .bool s.pict, .bool s.odd] 39)
  have hcop := copied12_any (.slice p l.length cap) l s (w.alloc (.cells #[.slice p l.length cap, .bool s.on, .int .i64 s.kind, .bool s.pict, .bool s.odd] 39)) hl (ri_below hv (below_new w _))
  have hbel := Lib.hid (below_new w (.cells #[.slice p l.length cap, .bool s.on, .int .i64 s.kind, .bool s.pict, .bool s.odd] 39))
  obtain ⟨L, hL⟩ : ∃ L, wellS l s = L := ⟨_, rfl⟩
  rw [hL] at hcop ⊢
  obtain ⟨L, t⟩ := L
  obtain ⟨on, k, pi, od⟩ := s
  obtain ⟨ton, tk, tpi, tod⟩ := t
  unfold sgV at hcop ⊢
  dsimp only at hcop hbel ⊢
  replace hcop := Lib.hid hcop
  clear hL hv
  go_enter Tryz.func75, Tryz.ntmps75
  go_wp2_with fail
  refine hcop.out.mono ?_
  rintro e w2 ⟨va, rfl, ho, hb2⟩
  obtain ⟨pa, qa, rfl⟩ := ri_form (ri_of_own ho)
  replace hb2 := Lib.hid (below_on hbel.out hb2)
  replace ho := Lib.hid (ownI_mono ho (show w.heap.size ≤ _ by simp))
  have hfa : ∀ (p1 : Option Addr) (n1 c1 : Nat) (b1 b2 b3 : Bool) (k1 : Int) (W : World), (Instr.field 39 (.agg #[.slice p1 n1 c1, .bool b1, .int .i64 k1, .bool b2, .bool b3]) 0).run Tryz.prog W = .ok (.slice p1 n1 c1) W := fun _ _ _ _ _ _ _ _ => by kernel_rfl
  go_wp2_with fail
  go_ret
  exact ⟨_, rfl, ho.out, hb2.out⟩
end Go.Proofs.YtiidjkhkcckmkaaGreatDoor

/- Layer 12: the code's behind, Feed. -/
namespace Go.Proofs.YtiidjkhkcckmkaaGreatDoor
set_option linter.unusedSimpArgs false
set_option linter.unusedVariables false
open Go.RowKit Go.Lib
theorem step_append_lies {P : Program} {ops : Array Oper} {o : Oper} {a : Act} {w : World} {K : Act → World → Prop} {Q : Exit → Act → World → Prop} {E : Prop}
    (hg : o.guard = none) (s x : Operand) (t : TypeId) (hop : o.op = Op.call { callee := Callee.builtin Builtin.append, args := #[s, x], argTypes := #[t, t] })
    (base : Nat) (e : TypeId) (i : TypeInfo) (z : Value) (size bytes : Nat) (h1 : P.underlying t = some (.slice e)) (h2 : P.info? e = some i) (h3 : i.zero = some z) (h4 : i.size = size) (h5 : i.bytes = bytes) (h6 : z.cells.size = size) (h7 : 0 < size)
    (v : Value) (n : Nat) (xs : List Value) (hs : a.eval s = v) (hown : w.ownsRow base e size v n xs)
    (ad : Addr) (m c : Nat) (news : List Value) (hx : a.eval x = .slice (some ad) m c) (hn : news.length = m * size) (hc : ∀ j u, news[j]? = some u → w.cell? (ad.add j) = some u) (h1c : ∀ u ∈ news, u.oneCell' = true)
    (b1 : n + m ≤ maxLen) (b2 : (n + m) * bytes ≤ 140737488355328) (hb : base ≤ w.heap.size)
    (hK : ∀ v' w', w'.ownsRow base e size v' (n + m) (xs ++ news) → w.grownBy w' v.ownBlock → Lies v' v w → K (a.put o.dst v') w') :
    if Region.wanted o (yielded ops a.tmps) = true then Oper.wp P o a w K Q else E := by
  have hw : Region.wanted o (yielded ops a.tmps) = true := by simp [Region.wanted, hg]
  rw [if_pos hw]
  obtain ⟨v', w', hrun, r1, r2, _⟩ := run_append_own (P := P) w base t o.type e i z size bytes h1 h2 h3 h4 h5 h6 h7 v n xs hown ad m c news hn hc h1c b1 b2 hb
  have h8 := run_append_lies (P := P) w base t o.type e i z size bytes h1 h2 h3 h4 h5 h6 h7 v n xs hown ad m c news hn hc h1c b1 b2 hb v' w' hrun
  unfold Oper.wp
  simp [execOp, hop, resolve, invoke, builtin, hs, hx, hrun, Result.andThen]
  exact hK v' w' r1 r2 h8
def OnlyO (v : Value) (w w' : World) : Prop := Below 0 w w' ∧ ∀ j, j < w.heap.size → some j ≠ v.ownBlock → w'.heap[j]? = w.heap[j]?
theorem onlyO_of {v : Value} {w w' : World} (hb : Below w.heap.size w w') : OnlyO v w w' := ⟨hb.mono (Nat.zero_le _), fun j hj _ => hb.block j hj⟩
theorem onlyO_below {B : Nat} {v : Value} {l : List Int} {w0 w w1 : World} (h : OnlyO v w w1) (ho : OwnI B v l w) (hB : B ≤ w.heap.size) (hb : Below B w0 w) : Below B w0 w1 :=
  hb.trans ⟨h.1.os, h.1.tape, h.1.output, h.1.size, fun j hj => h.2 j (by omega) (own_not ho hj)⟩
theorem onlyO_blk {B j : Nat} {v : Value} {l : List Int} {cs : Array Value} {T : TypeId} {w w1 : World} (h : OnlyO v w w1) (hT : T ≠ 3) (ho : OwnI B v l w) (hb : Blk w j cs T) : Blk w1 j cs T := by
  unfold Blk at hb ⊢
  rw [h.2 j (by rcases Nat.lt_or_ge j w.heap.size with h | h; exact h; exact absurd (Array.getElem?_eq_some_iff.1 hb).1 (by omega)) ?_]
  · exact hb
  · intro e
    rcases ho.2 with ⟨rfl, _⟩ | ⟨g, cap, cur, rfl, _, hg, _⟩
    · cases e
    · cases e
      rw [hb] at hg
      injection hg with hg
      injection hg with _ hg
      exact hT hg
theorem own_off12 {B b : Nat} {v : Value} {l : List Int} {w : World} {cs : Array Value} {T : TypeId} (hT : T ≠ 3) (h : OwnI B v l w) (hb : Blk w b cs T) : v.ownBlock ≠ some b := by
  intro e
  rcases h.2 with ⟨rfl, _⟩ | ⟨g, cap, cur, rfl, _, hg, _⟩
  · cases e
  · cases e
    unfold Blk at hb
    rw [hb] at hg
    injection hg with hg
    injection hg with _ hg
    exact hT hg
theorem cell_one12 (w : World) (v : Value) (T : TypeId) : ∀ (j : Nat) (u : Value), [v][j]? = some u → (w.alloc (.cells #[v] T)).cell? ((⟨w.heap.size, 0, none⟩ : Addr).add j) = some u := by
  intro j u hu
  rcases j with _ | j
  · simp at hu
    subst hu
    exact blk_cell (blk_new w _ _) 0 _ rfl
  · simp at hu
theorem own_none {v : Value} {b : Nat} (h : v.ownBlock ≠ some b) : v.ownBlock = none ∨ v.ownBlock ≠ some b := .inr h
theorem held12 {w : World} {k m : Nat} {a b c d e x0 x1 x2 x3 : Value} {T T' : TypeId} (h : Blk w k #[a, b, c, d, e] T) (h' : Blk w m #[x0, x1, x2, x3] T') : w.cell? ⟨k, 0, none⟩ = some a ∧ w.cell? ⟨m, 0, none⟩ = some x0 ∧ w.cell? ⟨m, 1, none⟩ = some x1 ∧ w.cell? ⟨m, 2, none⟩ = some x2 ∧ w.cell? ⟨m, 3, none⟩ = some x3 :=
  ⟨blk_cell h 0 _ rfl, blk_cell h' 0 _ rfl, blk_cell h' 1 _ rfl, blk_cell h' 2 _ rfl, blk_cell h' 3 _ rfl⟩
theorem state_ne : 39 ≠ 3 := by decide
theorem cstate_ne : 37 ≠ 3 := by decide
structure Bhd (B : Nat) (v : Value) (c : List Int) (q : (List Int × Clu.CS) × List Int) (va vb : Value) (w w' : World) : Prop where
  own : OwnI B va q.1.1 w'
  told : (vb = v ∧ q.2 = c ∧ OwnI B v c w' ∧ (∀ k, va.ownBlock = some k → w.heap.size ≤ k)) ∨ (vb = .slice none 0 0 ∧ q.2 = [] ∧ Lies va v w)
  only : OnlyO v w w'
theorem step_told {c : List Int} {s : Clu.CS} {r : Int} (h : c ≠ [] ∧ (Clu.endsI s r = true ∨ c.length = 32)) : Sgm.stepI c s r = (([r], Clu.nextI s r), c) := by
  unfold Sgm.stepI
  rw [if_pos h]
theorem step_kept {c : List Int} {s : Clu.CS} {r : Int} (h : ¬ (c ≠ [] ∧ (Clu.endsI s r = true ∨ c.length = 32))) : Sgm.stepI c s r = ((c ++ [r], Clu.nextI s r), []) := by
  unfold Sgm.stepI
  rw [if_neg h]
set_option maxHeartbeats 6400000 in
set_option maxRecDepth 100000 in
theorem behind_any (B : Nat) (v : Value) (c : List Int) (s : Clu.CS) (r : Int) (w : World) (hl : c.length ≤ 32) (hv : OwnI B v c w) (hB : B ≤ w.heap.size) :
    Calls Tryz.prog 98 #[sgV v s, .int .i64 r] w fun e w' => ∃ va vb, e = .returned (.tuple #[sgV va (Sgm.stepI c s r).1.2, vb]) ∧ Bhd B v c (Sgm.stepI c s r) va vb w w' := by
  obtain ⟨i0, hi, hz0, hz1, hz2⟩ := info_parts info_i
  have hnext := fun W => cnext_any s r W
  have hends := fun W => cends_any s r W
  obtain ⟨q, hq⟩ : ∃ q, Sgm.stepI c s r = q := ⟨_, rfl⟩
  have hq1 : ∀ h : c ≠ [] ∧ (Clu.endsI s r = true ∨ c.length = 32), q = (([r], Clu.nextI s r), c) := fun h => hq ▸ step_told h
  have hq2 : ∀ h : ¬ (c ≠ [] ∧ (Clu.endsI s r = true ∨ c.length = 32)), q = ((c ++ [r], Clu.nextI s r), []) := fun h => hq ▸ step_kept h
  rw [hq]
  obtain ⟨N, hN⟩ : ∃ N, Clu.nextI s r = N := ⟨_, rfl⟩
  obtain ⟨E, hE⟩ : ∃ E, Clu.endsI s r = E := ⟨_, rfl⟩
  rw [hN] at hnext hq1 hq2
  rw [hE] at hends hq1 hq2
  obtain ⟨p, cap, rfl⟩ := ri_form (ri_of_own hv)
  obtain ⟨on, k, pi, od⟩ := s
  obtain ⟨non, nk, npi, nod⟩ := N
  unfold csV at hnext hends
  unfold sgV
  dsimp only at hnext hends hq1 hq2 ⊢
  have hbox0 := blk_new w #[.slice p c.length cap, .bool on, .int .i64 k, .bool pi, .bool od] 39
  have hbox := blk_alloc hbox0 (.cells #[.slice none 0 0, .bool false, .int .i64 0, .bool false, .bool false] 39)
  have hres := blk_new (w.alloc (.cells #[.slice p c.length cap, .bool on, .int .i64 k, .bool pi, .bool od] 39)) #[.slice none 0 0, .bool false, .int .i64 0, .bool false, .bool false] 39
  rw [show (w.alloc (.cells #[.slice p c.length cap, .bool on, .int .i64 k, .bool pi, .bool od] 39)).heap.size = w.heap.size + 1 by simp] at hres
  have hb0 : Below w.heap.size w ((w.alloc (.cells #[.slice p c.length cap, .bool on, .int .i64 k, .bool pi, .bool od] 39)).alloc (.cells #[.slice none 0 0, .bool false, .int .i64 0, .bool false, .bool false] 39)) := (below_new w _).alloc (by simp) _
  obtain ⟨W, hW⟩ : ∃ W, (w.alloc (.cells #[.slice p c.length cap, .bool on, .int .i64 k, .bool pi, .bool od] 39)).alloc (.cells #[.slice none 0 0, .bool false, .int .i64 0, .bool false, .bool false] 39) = W := ⟨_, rfl⟩
  rw [hW] at hbox hres hb0
  have hvW := Lib.hid (ownI_below hv hb0)
  replace hbox := Lib.hid hbox
  replace hres := Lib.hid hres
  replace hb0 := Lib.hid hb0
  replace hW := Lib.hid hW
  replace hq1 := Lib.hid hq1
  replace hq2 := Lib.hid hq2
  replace hnext := Lib.hid hnext
  replace hends := Lib.hid hends
  replace hv := Lib.hid hv
  clear hbox0 hN hE hq
  go_enter Tryz.func98, Tryz.ntmps98
  go_upto_region 1 with (fail)
  rw [hW.out]
  have b1 := blk_cell hbox.out 1 _ rfl
  have b2 := blk_cell hbox.out 2 _ rfl
  have b3 := blk_cell hbox.out 3 _ rfl
  have b4 := blk_cell hbox.out 4 _ rfl
  go_wp2_with fail
  refine (hnext.out _).mono ?_
  rintro e w2 ⟨rfl, hb2⟩
  have hbx2 := blk_below hbox.out hb2
  have hrs2 := Lib.hid (blk_below hres.out hb2)
  have hv2 := Lib.hid (ownI_below hvW.out hb2)
  replace hb2 := Lib.hid (hb0.out.trans (hb2.mono hb0.out.size))
  have c0 := blk_cell hbx2 0 _ rfl
  have c1 := blk_cell hbx2 1 _ rfl
  have c2 := blk_cell hbx2 2 _ rfl
  have c3 := blk_cell hbx2 3 _ rfl
  have c4 := blk_cell hbx2 4 _ rfl
  replace hbx2 := Lib.hid hbx2
  clear b1 b2 b3 b4
  go_upto_region 2 with (fail)
  have hyz := blk_new w2 #[.bool non, .int .i64 nk, .bool npi, .bool nod] 37
  have hxz := blk_alloc hbx2.out (.cells #[.bool non, .int .i64 nk, .bool npi, .bool nod] 37)
  have hrz := blk_alloc hrs2.out (.cells #[.bool non, .int .i64 nk, .bool npi, .bool nod] 37)
  have hvz := ownI_alloc hv2.out (.cells #[.bool non, .int .i64 nk, .bool npi, .bool nod] 37)
  have hbz : Below w.heap.size w (w2.alloc (.cells #[.bool non, .int .i64 nk, .bool npi, .bool nod] 37)) := hb2.out.alloc hb2.out.size _
  generalize hzw : w2.alloc (.cells #[.bool non, .int .i64 nk, .bool npi, .bool nod] 37) = wz at *
  generalize hkn : w2.heap.size = kn at *
  have hkn' : w.heap.size + 1 < kn := by have := blk_lt hrs2.out; omega
  clear hzw hbx2 hrs2 hv2 hb2 hvW hb0 hbox hres hW c0 c1 c2 c3 c4 hnext
  have c0 := blk_cell hxz 0 _ rfl
  have c1 := blk_cell hxz 1 _ rfl
  have c2 := blk_cell hxz 2 _ rfl
  have c3 := blk_cell hxz 3 _ rfl
  have c4 := blk_cell hxz 4 _ rfl
  have hcl : c = [] ↔ c.length = 0 := by cases c <;> simp
  obtain ⟨n, hn⟩ : ∃ n, c.length = n := ⟨_, rfl⟩
  simp only [ne_eq, hcl, hn] at hq1 hq2 hl hxz hrz hvz c0 hv ⊢
  replace hn := Lib.hid hn
  replace hxz := Lib.hid hxz
  replace hyz := Lib.hid hyz
  replace hrz := Lib.hid hrz
  replace hvz := Lib.hid hvz
  replace hbz := Lib.hid hbz
  replace hkn' := Lib.hid hkn'
  replace hq1 := Lib.hid hq1
  replace hq2 := Lib.hid hq2
  replace hB := Lib.hid hB
  clear hcl
  rcases Nat.eq_zero_or_pos n with rfl | h0
  · have x3 := hxz
    have y3 := hyz
    have r3 := hrz
    have v3 := hvz
    have be3 := hbz
    clear hxz hyz hrz hvz hbz
    generalize wz = w3 at *
    go_wp2_with fail
    refine wp_region_held_drew (S := fun w' => w'.cell? ⟨w.heap.size, 0, none⟩ = some (.slice p 0 cap) ∧ w'.cell? ⟨kn, 0, none⟩ = some (.bool non) ∧ w'.cell? ⟨kn, 1, none⟩ = some (.int .i64 nk) ∧ w'.cell? ⟨kn, 2, none⟩ = some (.bool npi) ∧ w'.cell? ⟨kn, 3, none⟩ = some (.bool nod)) (by kernel_rfl) (held12 x3.out y3.out) (fun hS => ?_)
    refine' wpAnyH_take (i := 0) (oi := ⟨_, _, _, _, _, _⟩) (v := _) rfl (by kernel_rfl) (by kernel_rfl) (by kernel_rfl) (fun _ _ _ h => h) (Or.inl ⟨by rfl, ?hya0⟩) hS ?resta0
    case hya0 => (intro wz hSw; (try dsimp only at hSw); go_simp; try with_reducible rfl)
    try simp only [Act.put, List.setIfInBounds_toArray, List.set_cons_zero, List.set_cons_succ]
    refine' wpAnyH_take (i := 1) (oi := ⟨_, _, _, _, _, _⟩) (v := _) rfl (by kernel_rfl) (by kernel_rfl) (by kernel_rfl) (fun _ _ _ h => h) (Or.inl ⟨by rfl, ?hya1⟩) hS ?resta1
    case hya1 => (intro wz hSw; (try dsimp only at hSw); go_simp; try with_reducible rfl)
    try simp only [Act.put, List.setIfInBounds_toArray, List.set_cons_zero, List.set_cons_succ]
    refine' wpAnyH_take (i := 2) (oi := ⟨_, _, _, _, _, _⟩) (v := _) rfl (by kernel_rfl) (by kernel_rfl) (by kernel_rfl) (fun _ _ _ h => h) (Or.inl ⟨by rfl, ?hya2⟩) hS ?resta2
    case hya2 => (intro wz hSw; (try dsimp only at hSw); go_simp; try with_reducible rfl)
    try simp only [Act.put, List.setIfInBounds_toArray, List.set_cons_zero, List.set_cons_succ]
    refine' wpAnyH_take (i := 5) (oi := ⟨_, _, _, _, _, _⟩) (v := _) rfl (by kernel_rfl) (by kernel_rfl) (by kernel_rfl) (fun _ _ _ h => h) (Or.inl ⟨by rfl, ?hya5⟩) hS ?resta5
    case hya5 => (intro wz hSw; (try dsimp only at hSw); go_simp; try with_reducible rfl)
    try simp only [Act.put, List.setIfInBounds_toArray, List.set_cons_zero, List.set_cons_succ]
    refine wpAnyH_ready (rs := [3]) (by kernel_rfl) (by simp) (AllReadyH.cons rfl (fun K hK => ?_) AllReadyH.nil)
    go_simp
    go_wp2_with fail
    refine hK.out _ _ (held12 (blk_alloc (w := w3.drew) x3.out _) (blk_alloc (w := w3.drew) y3.out _)) (fun hSn => ?_)
    clear hS
    have hS := hSn
    clear hSn
    clear hK K
    try simp only [Act.put, List.setIfInBounds_toArray, List.set_cons_zero, List.set_cons_succ]
    have o4 := Lib.hid (ownI_alloc (ownI_drewN v3.out 1) (.cells #[.int .i64 r] 3))
    refine wpAnyH_ready (rs := [4]) (by kernel_rfl) (by simp) (AllReadyH.cons rfl (fun K hK => ?_) AllReadyH.nil)
    refine step_append_lies rfl _ _ 24 rfl B 3 i0 (.int .i64 0) 1 8 Tryz.underlying24 hi hz0 hz1 hz2 rfl (by decide) (.slice p 0 cap) _ _ rfl o4.out ⟨w3.heap.size, 0, none⟩ 1 1 [.int .i64 r] rfl rfl (cell_one12 w3.drew (.int .i64 r) 3) (oneCellI [r]) (by have := hn.out; unfold maxLen; omega) (by have := hn.out; omega) (by have := hB.out; have := be3.out.size; simp; omega) (fun v5 w5 hown5 hgrow5 hlies5 => ?_)
    have o5 := Lib.hid (ownI_of_row (l := c ++ [r]) hown5 (by simp) (by simp))
    obtain ⟨p5, q5, hv5⟩ := ri_form (ri_of_own o5.out)
    obtain ⟨m5, hm5⟩ : ∃ m5, (c ++ [r]).length = m5 := ⟨_, rfl⟩
    rw [hm5] at hv5
    subst hv5
    replace hm5 := Lib.hid hm5
    have x5 := Lib.hid (blk_grown (blk_alloc (w := w3.drew) x3.out _) hgrow5 (fun e => own_off12 state_ne v3.out x3.out e.symm))
    have y5 := Lib.hid (blk_grown (blk_alloc (w := w3.drew) y3.out _) hgrow5 (fun e => own_off12 cstate_ne v3.out y3.out e.symm))
    refine hK.out _ _ (held12 x5.out y5.out) (fun hSn => ?_)
    clear hS hK
    have hS := hSn
    clear hSn
    try simp only [Act.put, List.setIfInBounds_toArray, List.set_cons_zero, List.set_cons_succ]
    replace hgrow5 := Lib.hid hgrow5
    replace hlies5 := Lib.hid hlies5
    clear hown5
    refine' wpAnyH_take (i := 6) (oi := ⟨_, _, _, _, _, _⟩) (v := _) rfl (by kernel_rfl) (by kernel_rfl) (by kernel_rfl) (fun _ _ _ h => h) (Or.inl ⟨by rfl, ?hya6⟩) hS ?resta6
    case hya6 => (intro wz hSw; (try dsimp only at hSw); go_simp; try with_reducible rfl)
    try simp only [Act.put, List.setIfInBounds_toArray, List.set_cons_zero, List.set_cons_succ]
    have r5 := blk_grown (blk_alloc (w := w3.drew) r3.out _) hgrow5.out (fun e => own_off12 state_ne v3.out r3.out e.symm)
    have g0 := blk_cell r5 0 _ rfl
    have g1 := blk_cell r5 1 _ rfl
    have g2 := blk_cell r5 2 _ rfl
    have g3 := blk_cell r5 3 _ rfl
    have g4 := blk_cell r5 4 _ rfl
    have f0 := blk_thaw r5 0
    have f1 := blk_thaw r5 1
    have f2 := blk_thaw r5 2
    have f3 := blk_thaw r5 3
    have f4 := blk_thaw r5 4
    have n5 := Lib.hid (blk_put5 r5 (.slice p5 m5 q5) (.bool non) (.int .i64 nk) (.bool npi) (.bool nod))
    replace r5 := Lib.hid r5
    refine wpAnyH_ready (rs := [7]) (by kernel_rfl) (by simp) (AllReadyH.cons rfl (fun K hK => ?_) AllReadyH.nil)
    go_simp
    go_wp2_with fail
    refine hK.out _ _ (held12 (blk_else5 x5.out _ _ _ _ _ (by omega)) (blk_otherAt (blk_other4 y5.out _ _ _ _ (by have := hkn'.out; omega)) 4 _ (by have := hkn'.out; omega))) (fun hSn => ?_)
    clear hS
    have hS := hSn
    clear hSn
    clear hK K
    try simp only [Act.put, List.setIfInBounds_toArray, List.set_cons_zero, List.set_cons_succ]
    refine' wpAnyH_take (i := 8) (oi := ⟨_, _, _, _, _, _⟩) (v := _) rfl (by kernel_rfl) (by kernel_rfl) (by kernel_rfl) (fun _ _ _ h => h) (Or.inl ⟨by rfl, ?hya8⟩) hS ?resta8
    case hya8 => (intro wz hSw; (try dsimp only at hSw); go_simp; try with_reducible rfl)
    try simp only [Act.put, List.setIfInBounds_toArray, List.set_cons_zero, List.set_cons_succ]
    refine wpAnyH_done (by kernel_rfl) ?_ _
    go_wp2_with fail
    have d0 := blk_cell n5.out 0 _ rfl
    have d1 := blk_cell n5.out 1 _ rfl
    have d2 := blk_cell n5.out 2 _ rfl
    have d3 := blk_cell n5.out 3 _ rfl
    have d4 := blk_cell n5.out 4 _ rfl
    have hqq := hq2.out (by simp)
    rw [hqq]
    dsimp only
    have hltB := hB.out
    have hbe := be3.out
    have hnb := hn.out
    have hres3 := blk_lt r3.out
    have hgr := hgrow5.out
    refine bodyPost_ret (v := .tuple #[.agg #[.slice p5 m5 q5, .bool non, .int .i64 nk, .bool npi, .bool nod], .slice none 0 0]) ?_ rfl ⟨_, _, rfl, ?_, ?_, ?_, ?_⟩
    · simp [results, Tryz.results98, go_sem, d0, d1, d2, d3, d4]
    · exact own_put5 o5.out (own_none (own_off12 state_ne o5.out r5.out)) _ _ _ _ _
    · rw [hnb]
      refine .inr ⟨rfl, rfl, ?_⟩
      rcases hlies5.out with h | ⟨j, h1, h2⟩
      · exact .inl h
      · exact .inr ⟨j, h1, by have := hbe.size; simp at h2; omega⟩
    · exact below_put5 (n := 0) ⟨hgr.os.trans (hbe.os), hgr.tape.trans hbe.tape, hgr.output.trans hbe.output, by have := hgr.size; have := hbe.size; simp at *; omega, fun j hj => by omega⟩ (Nat.zero_le _) _ _ _ _ _
    · intro j hj hjv
      rw [hnb] at hjv
      have e1 : (put5 w5 (w.heap.size + 1) (.slice p5 m5 q5) (.bool non) (.int .i64 nk) (.bool npi) (.bool nod)).heap[j]? = w5.heap[j]? := (below_put5 (n := w.heap.size + 1) (Below.refl _ w5) (Nat.le_refl _) _ _ _ _ _).block j (by omega)
      have hbs := hbe.size
      rw [e1, hgr.block j (by simp; omega) hjv]
      exact (Below.heap_alloc w3 _ j (by omega)).trans (hbe.block j hj)
  · have t0 : decide ((0:Int) < (n:Int)) = true := by simp; omega
    rcases E with _ | _
    · by_cases h32 : n = 32
      · subst h32
        go_wp2_with (go_at_call 141; refine (hends.out _).mono ?_; rintro e w3 ⟨rfl, hb3⟩; have x3 := blk_below hxz.out hb3; have y3 := Lib.hid (blk_below hyz.out hb3); have r3 := Lib.hid (blk_below hrz.out hb3); have v3 := Lib.hid (ownI_below hvz.out hb3); have be3 := Lib.hid (hbz.out.trans (hb3.mono hbz.out.size)); have d0 := blk_cell x3 0 _ rfl; replace x3 := Lib.hid x3; clear hb3)
        refine wp_region_held_drew (S := fun w' => w'.cell? ⟨w.heap.size, 0, none⟩ = some (.slice p 32 cap) ∧ w'.cell? ⟨kn, 0, none⟩ = some (.bool non) ∧ w'.cell? ⟨kn, 1, none⟩ = some (.int .i64 nk) ∧ w'.cell? ⟨kn, 2, none⟩ = some (.bool npi) ∧ w'.cell? ⟨kn, 3, none⟩ = some (.bool nod)) (by kernel_rfl) (held12 x3.out y3.out) (fun hS => ?_)
        refine' wpAnyH_take (i := 0) (oi := ⟨_, _, _, _, _, _⟩) (v := _) rfl (by kernel_rfl) (by kernel_rfl) (by kernel_rfl) (fun _ _ _ h => h) (Or.inl ⟨by rfl, ?hyc0⟩) hS ?restc0
        case hyc0 => (intro wz hSw; (try dsimp only at hSw); go_simp; try with_reducible rfl)
        try simp only [Act.put, List.setIfInBounds_toArray, List.set_cons_zero, List.set_cons_succ]
        refine' wpAnyH_take (i := 2) (oi := ⟨_, _, _, _, _, _⟩) (v := _) rfl (by kernel_rfl) (by kernel_rfl) (by kernel_rfl) (fun _ _ _ h => h) (Or.inl ⟨by rfl, ?hyc2⟩) hS ?restc2
        case hyc2 => (intro wz hSw; (try dsimp only at hSw); go_simp; try with_reducible rfl)
        try simp only [Act.put, List.setIfInBounds_toArray, List.set_cons_zero, List.set_cons_succ]
        refine' wpAnyH_take (i := 4) (oi := ⟨_, _, _, _, _, _⟩) (v := _) rfl (by kernel_rfl) (by kernel_rfl) (by kernel_rfl) (fun _ _ _ h => h) (Or.inl ⟨by rfl, ?hyc4⟩) hS ?restc4
        case hyc4 => (intro wz hSw; (try dsimp only at hSw); go_simp; try with_reducible rfl)
        try simp only [Act.put, List.setIfInBounds_toArray, List.set_cons_zero, List.set_cons_succ]
        refine' wpAnyH_take (i := 5) (oi := ⟨_, _, _, _, _, _⟩) (v := _) rfl (by kernel_rfl) (by kernel_rfl) (by kernel_rfl) (fun _ _ _ h => h) (Or.inl ⟨by rfl, ?hyc5⟩) hS ?restc5
        case hyc5 => (intro wz hSw; (try dsimp only at hSw); go_simp; try with_reducible rfl)
        try simp only [Act.put, List.setIfInBounds_toArray, List.set_cons_zero, List.set_cons_succ]
        have x6 := Lib.hid (show Blk (w3.alloc (.cells #[.int .i64 r] 3)).drew _ _ _ from blk_alloc x3.out (.cells #[.int .i64 r] 3))
        have y6 := Lib.hid (show Blk (w3.alloc (.cells #[.int .i64 r] 3)).drew _ _ _ from blk_alloc y3.out (.cells #[.int .i64 r] 3))
        refine wpAnyH_ready (rs := [1]) (by kernel_rfl) (by simp) (AllReadyH.cons rfl (fun K hK => ?_) AllReadyH.nil)
        go_simp
        go_wp2_with fail
        refine hK.out _ _ (held12 x6.out y6.out) (fun hSn => ?_)
        clear hS
        have hS := hSn
        clear hSn
        clear hK K
        try simp only [Act.put, List.setIfInBounds_toArray, List.set_cons_zero, List.set_cons_succ]
        have r6 := Lib.hid (show Blk (w3.alloc (.cells #[.int .i64 r] 3)).drew _ _ _ from blk_alloc r3.out (.cells #[.int .i64 r] 3))
        have v6' := Lib.hid (show OwnI B (.slice p 32 cap) c (w3.alloc (.cells #[.int .i64 r] 3)).drew from ownI_alloc v3.out (.cells #[.int .i64 r] 3))
        have b6 := Lib.hid (show Below w.heap.size w (w3.alloc (.cells #[.int .i64 r] 3)).drew from (be3.out.alloc be3.out.size (.cells #[.int .i64 r] 3)).drew)
        have o6 := Lib.hid (show OwnI w3.heap.size (.slice (some ⟨w3.heap.size, 0, none⟩) 1 1) [r] (w3.alloc (.cells #[.int .i64 r] 3)).drew from ownI_lit w3.heap.size w3 [r] #[.int .i64 r] w3.heap.size 1 rfl (Nat.le_refl _) rfl rfl (by unfold maxLen; omega))
        obtain ⟨w4, hw4⟩ : ∃ w4, (w3.alloc (.cells #[.int .i64 r] 3)).drew = w4 := ⟨_, rfl⟩
        rw [hw4] at hS x6 y6 r6 b6 o6 v6' ⊢
        replace hw4 := Lib.hid hw4
        refine' wpAnyH_take (i := 3) (oi := ⟨_, _, _, _, _, _⟩) (v := _) rfl (by kernel_rfl) (by kernel_rfl) (by kernel_rfl) (fun _ _ _ h => h) (Or.inl ⟨by rfl, ?hyc3⟩) hS ?restc3
        case hyc3 => (intro wz hSw; (try dsimp only at hSw); go_simp; try with_reducible rfl)
        try simp only [Act.put, List.setIfInBounds_toArray, List.set_cons_zero, List.set_cons_succ]
        have r5 := r6.out
        have g0 := blk_cell r5 0 _ rfl
        have g1 := blk_cell r5 1 _ rfl
        have g2 := blk_cell r5 2 _ rfl
        have g3 := blk_cell r5 3 _ rfl
        have g4 := blk_cell r5 4 _ rfl
        have f0 := blk_thaw r5 0
        have f1 := blk_thaw r5 1
        have f2 := blk_thaw r5 2
        have f3 := blk_thaw r5 3
        have f4 := blk_thaw r5 4
        have n5 := Lib.hid (blk_put5 r5 (.slice (some ⟨w3.heap.size, 0, none⟩) 1 1) (.bool non) (.int .i64 nk) (.bool npi) (.bool nod))
        replace r5 := Lib.hid r5
        refine wpAnyH_ready (rs := [6]) (by kernel_rfl) (by simp) (AllReadyH.cons rfl (fun K hK => ?_) AllReadyH.nil)
        go_simp
        go_wp2_with fail
        refine hK.out _ _ (held12 (blk_else5 x6.out _ _ _ _ _ (by omega)) (blk_else5 y6.out _ _ _ _ _ (by have := hkn'.out; omega))) (fun hSn => ?_)
        clear hS
        have hS := hSn
        clear hSn
        clear hK K
        try simp only [Act.put, List.setIfInBounds_toArray, List.set_cons_zero, List.set_cons_succ]
        refine' wpAnyH_take (i := 7) (oi := ⟨_, _, _, _, _, _⟩) (v := _) rfl (by kernel_rfl) (by kernel_rfl) (by kernel_rfl) (fun _ _ _ h => h) (Or.inl ⟨by rfl, ?hyc7⟩) hS ?restc7
        case hyc7 => (intro wz hSw; (try dsimp only at hSw); go_simp; try with_reducible rfl)
        try simp only [Act.put, List.setIfInBounds_toArray, List.set_cons_zero, List.set_cons_succ]
        refine wpAnyH_done (by kernel_rfl) ?_ _
        go_wp2_with fail
        have d0 := blk_cell n5.out 0 _ rfl
        have d1 := blk_cell n5.out 1 _ rfl
        have d2 := blk_cell n5.out 2 _ rfl
        have d3 := blk_cell n5.out 3 _ rfl
        have d4 := blk_cell n5.out 4 _ rfl
        have hqq := hq1.out (by simp)
        rw [hqq]
        dsimp only
        have hltB := hB.out
        have hbe := be3.out
        have hnb := hn.out
        have hres3 := blk_lt r3.out
        refine bodyPost_ret (v := .tuple #[.agg #[.slice (some ⟨w3.heap.size, 0, none⟩) 1 1, .bool non, .int .i64 nk, .bool npi, .bool nod], .slice p 32 cap]) ?_ rfl ⟨_, _, rfl, ?_, ?_, ?_⟩
        · simp [results, Tryz.results98, go_sem, d0, d1, d2, d3, d4]
        · exact ownI_mono (own_put5 o6.out (own_none (own_off12 state_ne o6.out r6.out)) _ _ _ _ _) (Nat.le_trans hltB hbe.size)
        · rw [hnb]
          exact .inl ⟨rfl, rfl, own_put5 v6'.out (own_none (own_off12 state_ne v6'.out r6.out)) _ _ _ _ _, fun k hk => by have hk' : some w3.heap.size = some k := hk; injection hk' with hk'; have := hbe.size; omega⟩
        · exact onlyO_of (below_put5 b6.out (Nat.le_succ _) _ _ _ _ _)
      · have t1 : decide ((n:Int) = 32) = false := by simp; omega
        go_wp2_with (go_at_call 141; refine (hends.out _).mono ?_; rintro e w3 ⟨rfl, hb3⟩; have x3 := blk_below hxz.out hb3; have y3 := Lib.hid (blk_below hyz.out hb3); have r3 := Lib.hid (blk_below hrz.out hb3); have v3 := Lib.hid (ownI_below hvz.out hb3); have be3 := Lib.hid (hbz.out.trans (hb3.mono hbz.out.size)); have d0 := blk_cell x3 0 _ rfl; replace x3 := Lib.hid x3; clear hb3)
        refine wp_region_held_drew (S := fun w' => w'.cell? ⟨w.heap.size, 0, none⟩ = some (.slice p n cap) ∧ w'.cell? ⟨kn, 0, none⟩ = some (.bool non) ∧ w'.cell? ⟨kn, 1, none⟩ = some (.int .i64 nk) ∧ w'.cell? ⟨kn, 2, none⟩ = some (.bool npi) ∧ w'.cell? ⟨kn, 3, none⟩ = some (.bool nod)) (by kernel_rfl) (held12 x3.out y3.out) (fun hS => ?_)
        refine' wpAnyH_take (i := 0) (oi := ⟨_, _, _, _, _, _⟩) (v := _) rfl (by kernel_rfl) (by kernel_rfl) (by kernel_rfl) (fun _ _ _ h => h) (Or.inl ⟨by rfl, ?hyd0⟩) hS ?restd0
        case hyd0 => (intro wz hSw; (try dsimp only at hSw); go_simp; try with_reducible rfl)
        try simp only [Act.put, List.setIfInBounds_toArray, List.set_cons_zero, List.set_cons_succ]
        refine' wpAnyH_take (i := 1) (oi := ⟨_, _, _, _, _, _⟩) (v := _) rfl (by kernel_rfl) (by kernel_rfl) (by kernel_rfl) (fun _ _ _ h => h) (Or.inl ⟨by rfl, ?hyd1⟩) hS ?restd1
        case hyd1 => (intro wz hSw; (try dsimp only at hSw); go_simp; try with_reducible rfl)
        try simp only [Act.put, List.setIfInBounds_toArray, List.set_cons_zero, List.set_cons_succ]
        refine' wpAnyH_take (i := 2) (oi := ⟨_, _, _, _, _, _⟩) (v := _) rfl (by kernel_rfl) (by kernel_rfl) (by kernel_rfl) (fun _ _ _ h => h) (Or.inl ⟨by rfl, ?hyd2⟩) hS ?restd2
        case hyd2 => (intro wz hSw; (try dsimp only at hSw); go_simp; try with_reducible rfl)
        try simp only [Act.put, List.setIfInBounds_toArray, List.set_cons_zero, List.set_cons_succ]
        refine' wpAnyH_take (i := 5) (oi := ⟨_, _, _, _, _, _⟩) (v := _) rfl (by kernel_rfl) (by kernel_rfl) (by kernel_rfl) (fun _ _ _ h => h) (Or.inl ⟨by rfl, ?hyd5⟩) hS ?restd5
        case hyd5 => (intro wz hSw; (try dsimp only at hSw); go_simp; try with_reducible rfl)
        try simp only [Act.put, List.setIfInBounds_toArray, List.set_cons_zero, List.set_cons_succ]
        refine wpAnyH_ready (rs := [3]) (by kernel_rfl) (by simp) (AllReadyH.cons rfl (fun K hK => ?_) AllReadyH.nil)
        go_simp
        go_wp2_with fail
        refine hK.out _ _ (held12 (blk_alloc (w := w3.drew) x3.out _) (blk_alloc (w := w3.drew) y3.out _)) (fun hSn => ?_)
        clear hS
        have hS := hSn
        clear hSn
        clear hK K
        try simp only [Act.put, List.setIfInBounds_toArray, List.set_cons_zero, List.set_cons_succ]
        have o4 := Lib.hid (ownI_alloc (ownI_drewN v3.out 1) (.cells #[.int .i64 r] 3))
        refine wpAnyH_ready (rs := [4]) (by kernel_rfl) (by simp) (AllReadyH.cons rfl (fun K hK => ?_) AllReadyH.nil)
        refine step_append_lies rfl _ _ 24 rfl B 3 i0 (.int .i64 0) 1 8 Tryz.underlying24 hi hz0 hz1 hz2 rfl (by decide) (.slice p n cap) _ _ rfl o4.out ⟨w3.heap.size, 0, none⟩ 1 1 [.int .i64 r] rfl rfl (cell_one12 w3.drew (.int .i64 r) 3) (oneCellI [r]) (by have := hn.out; unfold maxLen; omega) (by have := hn.out; omega) (by have := hB.out; have := be3.out.size; simp; omega) (fun v5 w5 hown5 hgrow5 hlies5 => ?_)
        have o5 := Lib.hid (ownI_of_row (l := c ++ [r]) hown5 (by simp) (by simp))
        obtain ⟨p5, q5, hv5⟩ := ri_form (ri_of_own o5.out)
        obtain ⟨m5, hm5⟩ : ∃ m5, (c ++ [r]).length = m5 := ⟨_, rfl⟩
        rw [hm5] at hv5
        subst hv5
        replace hm5 := Lib.hid hm5
        have x5 := Lib.hid (blk_grown (blk_alloc (w := w3.drew) x3.out _) hgrow5 (fun e => own_off12 state_ne v3.out x3.out e.symm))
        have y5 := Lib.hid (blk_grown (blk_alloc (w := w3.drew) y3.out _) hgrow5 (fun e => own_off12 cstate_ne v3.out y3.out e.symm))
        refine hK.out _ _ (held12 x5.out y5.out) (fun hSn => ?_)
        clear hS hK
        have hS := hSn
        clear hSn
        try simp only [Act.put, List.setIfInBounds_toArray, List.set_cons_zero, List.set_cons_succ]
        replace hgrow5 := Lib.hid hgrow5
        replace hlies5 := Lib.hid hlies5
        clear hown5
        refine' wpAnyH_take (i := 6) (oi := ⟨_, _, _, _, _, _⟩) (v := _) rfl (by kernel_rfl) (by kernel_rfl) (by kernel_rfl) (fun _ _ _ h => h) (Or.inl ⟨by rfl, ?hyd6⟩) hS ?restd6
        case hyd6 => (intro wz hSw; (try dsimp only at hSw); go_simp; try with_reducible rfl)
        try simp only [Act.put, List.setIfInBounds_toArray, List.set_cons_zero, List.set_cons_succ]
        have r5 := blk_grown (blk_alloc (w := w3.drew) r3.out _) hgrow5.out (fun e => own_off12 state_ne v3.out r3.out e.symm)
        have g0 := blk_cell r5 0 _ rfl
        have g1 := blk_cell r5 1 _ rfl
        have g2 := blk_cell r5 2 _ rfl
        have g3 := blk_cell r5 3 _ rfl
        have g4 := blk_cell r5 4 _ rfl
        have f0 := blk_thaw r5 0
        have f1 := blk_thaw r5 1
        have f2 := blk_thaw r5 2
        have f3 := blk_thaw r5 3
        have f4 := blk_thaw r5 4
        have n5 := Lib.hid (blk_put5 r5 (.slice p5 m5 q5) (.bool non) (.int .i64 nk) (.bool npi) (.bool nod))
        replace r5 := Lib.hid r5
        refine wpAnyH_ready (rs := [7]) (by kernel_rfl) (by simp) (AllReadyH.cons rfl (fun K hK => ?_) AllReadyH.nil)
        go_simp
        go_wp2_with fail
        refine hK.out _ _ (held12 (blk_else5 x5.out _ _ _ _ _ (by omega)) (blk_otherAt (blk_other4 y5.out _ _ _ _ (by have := hkn'.out; omega)) 4 _ (by have := hkn'.out; omega))) (fun hSn => ?_)
        clear hS
        have hS := hSn
        clear hSn
        clear hK K
        try simp only [Act.put, List.setIfInBounds_toArray, List.set_cons_zero, List.set_cons_succ]
        refine' wpAnyH_take (i := 8) (oi := ⟨_, _, _, _, _, _⟩) (v := _) rfl (by kernel_rfl) (by kernel_rfl) (by kernel_rfl) (fun _ _ _ h => h) (Or.inl ⟨by rfl, ?hyd8⟩) hS ?restd8
        case hyd8 => (intro wz hSw; (try dsimp only at hSw); go_simp; try with_reducible rfl)
        try simp only [Act.put, List.setIfInBounds_toArray, List.set_cons_zero, List.set_cons_succ]
        refine wpAnyH_done (by kernel_rfl) ?_ _
        go_wp2_with fail
        have d0 := blk_cell n5.out 0 _ rfl
        have d1 := blk_cell n5.out 1 _ rfl
        have d2 := blk_cell n5.out 2 _ rfl
        have d3 := blk_cell n5.out 3 _ rfl
        have d4 := blk_cell n5.out 4 _ rfl
        have hqq := hq2.out (by simp; omega)
        rw [hqq]
        dsimp only
        have hltB := hB.out
        have hbe := be3.out
        have hnb := hn.out
        have hres3 := blk_lt r3.out
        have hgr := hgrow5.out
        refine bodyPost_ret (v := .tuple #[.agg #[.slice p5 m5 q5, .bool non, .int .i64 nk, .bool npi, .bool nod], .slice none 0 0]) ?_ rfl ⟨_, _, rfl, ?_, ?_, ?_, ?_⟩
        · simp [results, Tryz.results98, go_sem, d0, d1, d2, d3, d4]
        · exact own_put5 o5.out (own_none (own_off12 state_ne o5.out r5.out)) _ _ _ _ _
        · rw [hnb]
          refine .inr ⟨rfl, rfl, ?_⟩
          rcases hlies5.out with h | ⟨j, h1, h2⟩
          · exact .inl h
          · exact .inr ⟨j, h1, by have := hbe.size; simp at h2; omega⟩
        · exact below_put5 (n := 0) ⟨hgr.os.trans (hbe.os), hgr.tape.trans hbe.tape, hgr.output.trans hbe.output, by have := hgr.size; have := hbe.size; simp at *; omega, fun j hj => by omega⟩ (Nat.zero_le _) _ _ _ _ _
        · intro j hj hjv
          rw [hnb] at hjv
          have e1 : (put5 w5 (w.heap.size + 1) (.slice p5 m5 q5) (.bool non) (.int .i64 nk) (.bool npi) (.bool nod)).heap[j]? = w5.heap[j]? := (below_put5 (n := w.heap.size + 1) (Below.refl _ w5) (Nat.le_refl _) _ _ _ _ _).block j (by omega)
          have hbs := hbe.size
          rw [e1, hgr.block j (by simp; omega) hjv]
          exact (Below.heap_alloc w3 _ j (by omega)).trans (hbe.block j hj)
    · go_wp2_with (go_at_call 141; refine (hends.out _).mono ?_; rintro e w3 ⟨rfl, hb3⟩; have x3 := blk_below hxz.out hb3; have y3 := Lib.hid (blk_below hyz.out hb3); have r3 := Lib.hid (blk_below hrz.out hb3); have v3 := Lib.hid (ownI_below hvz.out hb3); have be3 := Lib.hid (hbz.out.trans (hb3.mono hbz.out.size)); have d0 := blk_cell x3 0 _ rfl; replace x3 := Lib.hid x3; clear hb3)
      refine wp_region_held_drew (S := fun w' => w'.cell? ⟨w.heap.size, 0, none⟩ = some (.slice p n cap) ∧ w'.cell? ⟨kn, 0, none⟩ = some (.bool non) ∧ w'.cell? ⟨kn, 1, none⟩ = some (.int .i64 nk) ∧ w'.cell? ⟨kn, 2, none⟩ = some (.bool npi) ∧ w'.cell? ⟨kn, 3, none⟩ = some (.bool nod)) (by kernel_rfl) (held12 x3.out y3.out) (fun hS => ?_)
      refine' wpAnyH_take (i := 0) (oi := ⟨_, _, _, _, _, _⟩) (v := _) rfl (by kernel_rfl) (by kernel_rfl) (by kernel_rfl) (fun _ _ _ h => h) (Or.inl ⟨by rfl, ?hyb0⟩) hS ?restb0
      case hyb0 => (intro wz hSw; (try dsimp only at hSw); go_simp; try with_reducible rfl)
      try simp only [Act.put, List.setIfInBounds_toArray, List.set_cons_zero, List.set_cons_succ]
      refine' wpAnyH_take (i := 2) (oi := ⟨_, _, _, _, _, _⟩) (v := _) rfl (by kernel_rfl) (by kernel_rfl) (by kernel_rfl) (fun _ _ _ h => h) (Or.inl ⟨by rfl, ?hyb2⟩) hS ?restb2
      case hyb2 => (intro wz hSw; (try dsimp only at hSw); go_simp; try with_reducible rfl)
      try simp only [Act.put, List.setIfInBounds_toArray, List.set_cons_zero, List.set_cons_succ]
      refine' wpAnyH_take (i := 4) (oi := ⟨_, _, _, _, _, _⟩) (v := _) rfl (by kernel_rfl) (by kernel_rfl) (by kernel_rfl) (fun _ _ _ h => h) (Or.inl ⟨by rfl, ?hyb4⟩) hS ?restb4
      case hyb4 => (intro wz hSw; (try dsimp only at hSw); go_simp; try with_reducible rfl)
      try simp only [Act.put, List.setIfInBounds_toArray, List.set_cons_zero, List.set_cons_succ]
      refine' wpAnyH_take (i := 5) (oi := ⟨_, _, _, _, _, _⟩) (v := _) rfl (by kernel_rfl) (by kernel_rfl) (by kernel_rfl) (fun _ _ _ h => h) (Or.inl ⟨by rfl, ?hyb5⟩) hS ?restb5
      case hyb5 => (intro wz hSw; (try dsimp only at hSw); go_simp; try with_reducible rfl)
      try simp only [Act.put, List.setIfInBounds_toArray, List.set_cons_zero, List.set_cons_succ]
      have x6 := Lib.hid (show Blk (w3.alloc (.cells #[.int .i64 r] 3)).drew _ _ _ from blk_alloc x3.out (.cells #[.int .i64 r] 3))
      have y6 := Lib.hid (show Blk (w3.alloc (.cells #[.int .i64 r] 3)).drew _ _ _ from blk_alloc y3.out (.cells #[.int .i64 r] 3))
      refine wpAnyH_ready (rs := [1]) (by kernel_rfl) (by simp) (AllReadyH.cons rfl (fun K hK => ?_) AllReadyH.nil)
      go_simp
      go_wp2_with fail
      refine hK.out _ _ (held12 x6.out y6.out) (fun hSn => ?_)
      clear hS
      have hS := hSn
      clear hSn
      clear hK K
      try simp only [Act.put, List.setIfInBounds_toArray, List.set_cons_zero, List.set_cons_succ]
      have r6 := Lib.hid (show Blk (w3.alloc (.cells #[.int .i64 r] 3)).drew _ _ _ from blk_alloc r3.out (.cells #[.int .i64 r] 3))
      have v6' := Lib.hid (show OwnI B (.slice p n cap) c (w3.alloc (.cells #[.int .i64 r] 3)).drew from ownI_alloc v3.out (.cells #[.int .i64 r] 3))
      have b6 := Lib.hid (show Below w.heap.size w (w3.alloc (.cells #[.int .i64 r] 3)).drew from (be3.out.alloc be3.out.size (.cells #[.int .i64 r] 3)).drew)
      have o6 := Lib.hid (show OwnI w3.heap.size (.slice (some ⟨w3.heap.size, 0, none⟩) 1 1) [r] (w3.alloc (.cells #[.int .i64 r] 3)).drew from ownI_lit w3.heap.size w3 [r] #[.int .i64 r] w3.heap.size 1 rfl (Nat.le_refl _) rfl rfl (by unfold maxLen; omega))
      obtain ⟨w4, hw4⟩ : ∃ w4, (w3.alloc (.cells #[.int .i64 r] 3)).drew = w4 := ⟨_, rfl⟩
      rw [hw4] at hS x6 y6 r6 b6 o6 v6' ⊢
      replace hw4 := Lib.hid hw4
      refine' wpAnyH_take (i := 3) (oi := ⟨_, _, _, _, _, _⟩) (v := _) rfl (by kernel_rfl) (by kernel_rfl) (by kernel_rfl) (fun _ _ _ h => h) (Or.inl ⟨by rfl, ?hyb3⟩) hS ?restb3
      case hyb3 => (intro wz hSw; (try dsimp only at hSw); go_simp; try with_reducible rfl)
      try simp only [Act.put, List.setIfInBounds_toArray, List.set_cons_zero, List.set_cons_succ]
      have r5 := r6.out
      have g0 := blk_cell r5 0 _ rfl
      have g1 := blk_cell r5 1 _ rfl
      have g2 := blk_cell r5 2 _ rfl
      have g3 := blk_cell r5 3 _ rfl
      have g4 := blk_cell r5 4 _ rfl
      have f0 := blk_thaw r5 0
      have f1 := blk_thaw r5 1
      have f2 := blk_thaw r5 2
      have f3 := blk_thaw r5 3
      have f4 := blk_thaw r5 4
      have n5 := Lib.hid (blk_put5 r5 (.slice (some ⟨w3.heap.size, 0, none⟩) 1 1) (.bool non) (.int .i64 nk) (.bool npi) (.bool nod))
      replace r5 := Lib.hid r5
      refine wpAnyH_ready (rs := [6]) (by kernel_rfl) (by simp) (AllReadyH.cons rfl (fun K hK => ?_) AllReadyH.nil)
      go_simp
      go_wp2_with fail
      refine hK.out _ _ (held12 (blk_else5 x6.out _ _ _ _ _ (by omega)) (blk_else5 y6.out _ _ _ _ _ (by have := hkn'.out; omega))) (fun hSn => ?_)
      clear hS
      have hS := hSn
      clear hSn
      clear hK K
      try simp only [Act.put, List.setIfInBounds_toArray, List.set_cons_zero, List.set_cons_succ]
      refine' wpAnyH_take (i := 7) (oi := ⟨_, _, _, _, _, _⟩) (v := _) rfl (by kernel_rfl) (by kernel_rfl) (by kernel_rfl) (fun _ _ _ h => h) (Or.inl ⟨by rfl, ?hyb7⟩) hS ?restb7
      case hyb7 => (intro wz hSw; (try dsimp only at hSw); go_simp; try with_reducible rfl)
      try simp only [Act.put, List.setIfInBounds_toArray, List.set_cons_zero, List.set_cons_succ]
      refine wpAnyH_done (by kernel_rfl) ?_ _
      go_wp2_with fail
      have d0 := blk_cell n5.out 0 _ rfl
      have d1 := blk_cell n5.out 1 _ rfl
      have d2 := blk_cell n5.out 2 _ rfl
      have d3 := blk_cell n5.out 3 _ rfl
      have d4 := blk_cell n5.out 4 _ rfl
      have hqq := hq1.out (by simp; omega)
      rw [hqq]
      dsimp only
      have hltB := hB.out
      have hbe := be3.out
      have hnb := hn.out
      have hres3 := blk_lt r3.out
      refine bodyPost_ret (v := .tuple #[.agg #[.slice (some ⟨w3.heap.size, 0, none⟩) 1 1, .bool non, .int .i64 nk, .bool npi, .bool nod], .slice p n cap]) ?_ rfl ⟨_, _, rfl, ?_, ?_, ?_⟩
      · simp [results, Tryz.results98, go_sem, d0, d1, d2, d3, d4]
      · exact ownI_mono (own_put5 o6.out (own_none (own_off12 state_ne o6.out r6.out)) _ _ _ _ _) (Nat.le_trans hltB hbe.size)
      · rw [hnb]
        exact .inl ⟨rfl, rfl, own_put5 v6'.out (own_none (own_off12 state_ne v6'.out r6.out)) _ _ _ _ _, fun k hk => by have hk' : some w3.heap.size = some k := hk; injection hk' with hk'; have := hbe.size; omega⟩
      · exact onlyO_of (below_put5 b6.out (Nat.le_succ _) _ _ _ _ _)
end Go.Proofs.YtiidjkhkcckmkaaGreatDoor

/- Layer 12: the code's Feed. -/
namespace Go.Proofs.YtiidjkhkcckmkaaGreatDoor
set_option linter.unusedSimpArgs false
set_option linter.unusedVariables false
open Go.RowKit Go.Lib
theorem well_len (l : List Int) (s : Clu.CS) : (wellS l s).1.length ≤ 32 := by
  have h := well_sane l s
  unfold Sgm.saneB at h
  simp only [Bool.and_eq_true, decide_eq_true_eq] at h
  exact h.1.1
theorem bhd_toldO {B : Nat} {v va vb : Value} {c : List Int} {q : (List Int × Clu.CS) × List Int} {w w' : World} (h : Bhd B v c q va vb w w') : OwnI B vb q.2 w' := by
  rcases h.told with ⟨rfl, h2, h3, _⟩ | ⟨rfl, h2, _⟩
  · rw [h2]
    exact h3
  · rw [h2]
    exact ownI_nil _ _
def FedO12 (q : (List Int × Clu.CS) × List Int) (w : World) (e : Ending) (w' : World) : Prop := ∃ va vb, e = .returned (.tuple #[sgV va q.1.2, vb]) ∧ OwnI w.heap.size va q.1.1 w' ∧ OwnI w.heap.size vb q.2 w' ∧ Below w.heap.size w w'
set_option maxHeartbeats 3200000 in
set_option maxRecDepth 100000 in
theorem feed12_own (v : Value) (l : List Int) (s : Clu.CS) (r : Int) (w : World) (hl : l.length ≤ 100000) (hv : RI w v l) : Calls Tryz.prog 60 #[sgV v s, .int .i64 r] w (FedO12 (Sgm.feedI l s r) w) := by
  rw [well_feed]
  have hwl := well_len l s
  obtain ⟨p, cap, rfl⟩ := ri_form hv
  obtain ⟨⟨L, S⟩, hL⟩ : ∃ L, wellS l s = L := ⟨_, rfl⟩
  rw [hL] at hwl ⊢
  obtain ⟨on, k, pi, od⟩ := s
  have hbox0 := blk_new w #[.slice p l.length cap, .bool on, .int .i64 k, .bool pi, .bool od] 39
  have hbox := blk_alloc hbox0 (.cells #[.slice none 0 0, .bool false, .int .i64 0, .bool false, .bool false] 39)
  have hres := blk_new (w.alloc (.cells #[.slice p l.length cap, .bool on, .int .i64 k, .bool pi, .bool od] 39)) #[.slice none 0 0, .bool false, .int .i64 0, .bool false, .bool false] 39
  rw [show (w.alloc (.cells #[.slice p l.length cap, .bool on, .int .i64 k, .bool pi, .bool od] 39)).heap.size = w.heap.size + 1 by simp] at hres
  have hb0 : Below w.heap.size w ((w.alloc (.cells #[.slice p l.length cap, .bool on, .int .i64 k, .bool pi, .bool od] 39)).alloc (.cells #[.slice none 0 0, .bool false, .int .i64 0, .bool false, .bool false] 39)) := (below_new w _).alloc (by simp) _
  obtain ⟨W, hW⟩ : ∃ W, (w.alloc (.cells #[.slice p l.length cap, .bool on, .int .i64 k, .bool pi, .bool od] 39)).alloc (.cells #[.slice none 0 0, .bool false, .int .i64 0, .bool false, .bool false] 39) = W := ⟨_, rfl⟩
  have hvW := ri_below hv hb0
  rw [hW] at hbox hres hb0 hvW
  have hcop := copied12_any (.slice p l.length cap) l ⟨on, k, pi, od⟩ W hl hvW
  rw [hL] at hcop
  have hbeh := fun B va W1 => behind_any B va L S r W1 hwl
  obtain ⟨q, hq⟩ : ∃ q, Sgm.stepI L S r = q := ⟨_, rfl⟩
  rw [hq] at hbeh ⊢
  obtain ⟨⟨q1, N⟩, q2⟩ := q
  obtain ⟨son, sk, spi, sod⟩ := S
  obtain ⟨non, nk, npi, nod⟩ := N
  unfold FedO12
  unfold sgV at hcop hbeh ⊢
  dsimp only at hcop hbeh hL ⊢
  replace hbox := Lib.hid hbox
  replace hres := Lib.hid hres
  replace hb0 := Lib.hid hb0
  replace hvW := Lib.hid hvW
  replace hW := Lib.hid hW
  replace hcop := Lib.hid hcop
  replace hbeh := Lib.hid hbeh
  clear hv hbox0 hL hq
  go_enter Tryz.func60, Tryz.ntmps60
  go_upto_region 1 with (fail)
  rw [hW.out]
  have b0 := blk_cell hbox.out 0 _ rfl
  have b1 := blk_cell hbox.out 1 _ rfl
  have b2 := blk_cell hbox.out 2 _ rfl
  have b3 := blk_cell hbox.out 3 _ rfl
  have b4 := blk_cell hbox.out 4 _ rfl
  go_wp2_with fail
  refine hcop.out.mono ?_
  rintro e w2 ⟨va, rfl, ho2, hb2⟩
  obtain ⟨pa, qa, rfl⟩ := ri_form (ri_of_own ho2)
  have hr2 := Lib.hid (blk_below hres.out hb2)
  have hbw2 := Lib.hid (hb0.out.trans (hb2.mono hb0.out.size))
  have hs2 := Lib.hid (show W.heap.size ≤ w2.heap.size from hb2.size)
  have hsW := Lib.hid (show w.heap.size ≤ W.heap.size from hb0.out.size)
  replace ho2 := Lib.hid ho2
  clear b0 b1 b2 b3 b4 hb2
  go_wp2_with fail
  refine (hbeh.out W.heap.size _ _ ho2.out hs2.out).mono ?_
  rintro e w3 ⟨vb, vt, rfl, hbh⟩
  obtain ⟨pb, qb, rfl⟩ := ri_form (ri_of_own hbh.own)
  obtain ⟨pt, qt, rfl⟩ := ri_form (ri_of_own (bhd_toldO hbh))
  have hr3 := onlyO_blk hbh.only state_ne ho2.out hr2.out
  have hb3 := Lib.hid (onlyO_below hbh.only (ownI_mono ho2.out hsW.out) hbw2.out.size hbw2.out)
  have ht3 := Lib.hid (bhd_toldO hbh)
  have ho3 := Lib.hid hbh.own
  replace hbh := Lib.hid hbh
  have g0 := blk_cell hr3 0 _ rfl
  have g1 := blk_cell hr3 1 _ rfl
  have g2 := blk_cell hr3 2 _ rfl
  have g3 := blk_cell hr3 3 _ rfl
  have g4 := blk_cell hr3 4 _ rfl
  have f0 := blk_thaw hr3 0
  have f1 := blk_thaw hr3 1
  have f2 := blk_thaw hr3 2
  have f3 := blk_thaw hr3 3
  have f4 := blk_thaw hr3 4
  dsimp only at ht3 ho3
  have n3 := Lib.hid (blk_put5 hr3 (.slice pb q1.length qb) (.bool non) (.int .i64 nk) (.bool npi) (.bool nod))
  replace hr3 := Lib.hid hr3
  go_wp2_with fail
  have d0 := blk_cell n3.out 0 _ rfl
  have d1 := blk_cell n3.out 1 _ rfl
  have d2 := blk_cell n3.out 2 _ rfl
  have d3 := blk_cell n3.out 3 _ rfl
  have d4 := blk_cell n3.out 4 _ rfl
  refine bodyPost_ret (v := .tuple #[.agg #[.slice pb q1.length qb, .bool non, .int .i64 nk, .bool npi, .bool nod], .slice pt q2.length qt]) ?_ rfl ⟨_, _, rfl, ?_, ?_, ?_⟩
  · simp [results, Tryz.results60, go_sem, d0, d1, d2, d3, d4]
  · exact ownI_mono (own_put5 ho3.out (own_none (own_off12 state_ne ho3.out hr3.out)) _ _ _ _ _) hsW.out
  · exact ownI_mono (own_put5 ht3.out (own_none (own_off12 state_ne ht3.out hr3.out)) _ _ _ _ _) hsW.out
  · exact below_put5 hb3.out (Nat.le_succ _) _ _ _ _ _
end Go.Proofs.YtiidjkhkcckmkaaGreatDoor

