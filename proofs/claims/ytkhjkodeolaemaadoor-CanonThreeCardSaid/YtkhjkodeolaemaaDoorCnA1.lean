/- Layer 7: the code's way to compare two places; what the stable sort asks of this program. -/
import Derived.Test.YtkhjkodeolaemaaDoorSwA6
import Derived.Test.YtkhjkodeolaemaaDoorGB
import Derived.Test.YtkhjkodeolaemaaDoorK5
import Derived.Test.YtkhjkodeolaemaaDoorShelf
import Derived.Deep.RegionHeld
import Derived.OrdersHeld
namespace Go.Proofs.YtkhjkodeolaemaaDoor
set_option linter.unusedSimpArgs false
set_option linter.unusedVariables false
open Go.Shelf Go.RowKit Go.Lib Go.Sort
open Stb

/-- draws, and blocks laid behind -/
def Gr (w w' : World) : Prop := ∃ q os, w' = grow (w.drewN q) os
theorem gr_refl (w : World) : Gr w w := ⟨0, #[], by rw [grow_empty]; rfl⟩
theorem gr_alloc {w w' : World} (h : Gr w w') (o : Obj) : Gr w (w'.alloc o) := by
  obtain ⟨q, os, rfl⟩ := h
  exact ⟨q, os ++ #[o], by rw [alloc_eq_grow, grow_grow]⟩
theorem gr_drewN {w w' : World} (h : Gr w w') (n : Nat) : Gr w (w'.drewN n) := by
  obtain ⟨q, os, rfl⟩ := h
  exact ⟨q + n, os, by show _ = grow ((w.drewN (q + n))) os; rw [← World.drewN_drewN]; rfl⟩
theorem gr_drew {w w' : World} (h : Gr w w') : Gr w w'.drew := gr_drewN h 1
theorem gr_below {w w' : World} (h : Gr w w') : Below w.heap.size w w' := by
  obtain ⟨q, os, rfl⟩ := h
  exact ⟨rfl, rfl, rfl, by first | (simp [grow]; done) | (simp [grow]; omega), fun i hi => by
    show ((w.drewN q).heap ++ os)[i]? = _
    rw [Array.getElem?_append_left (by show i < w.heap.size; omega)]
    rfl⟩

/-- what the code's compare tells -/
def cfE (x y : El) : Int := if Lib.compareInt x.2.1 y.2.1 = 0 then Lib.compareInt x.2.2.1 y.2.2.1 else Lib.compareInt x.2.1 y.2.1
theorem cfE_kl (x y : El) : cfE x y < 0 ↔ KL x y := by
  unfold cfE Lib.compareInt KL
  (repeat' split) <;> omega

theorem or_two (a b : Int) (k : Nat) (w : World) (h0 : w.cell? ⟨k, 0, none⟩ = some (.int .i64 a)) (h1 : w.cell? ⟨k, 1, none⟩ = some (.int .i64 b)) :
    Calls Tryd.prog 41 #[.slice (some ⟨k, 0, none⟩) 2 2] w fun e w' => e = .returned (.int .i64 (if a = 0 then b else a)) ∧ w' = w := by
  go_enter Tryd.func41, Tryd.ntmps41
  go_wp2_with fail
  go_loopg [5, 8] 2 (fun g v5 v8 wr => ∃ j : Nat, v8 = .int .i64 j ∧ j ≤ 2 ∧ g = 2 - j ∧ wr = w ∧ (1 ≤ j → a = 0) ∧ (2 ≤ j → b = 0))
  case atStart => exact ⟨0, rfl, by omega, rfl, rfl, fun h => by omega, fun h => by omega⟩
  case round =>
    obtain ⟨j, rfl, hj, rfl, rfl, ha, hb⟩ := hrel
    rcases (show j = 0 ∨ j = 1 ∨ j = 2 by omega) with rfl | rfl | rfl
    · by_cases hz : a = 0
      · subst hz
        go_wp2_with fail
        go_roundg 1
        case measure => omega
        case rel => exact ⟨1, rfl, by omega, rfl, rfl, fun _ => (by first | rfl | trivial), fun h => by omega⟩
      · have hzB : (a != 0) = true := by simpa using hz
        clear ha hb
        go_wp2_with fail
        go_ret
        simp [hz]
    · obtain rfl := ha (by omega)
      by_cases hz : b = 0
      · subst hz
        go_wp2_with fail
        go_roundg 0
        case measure => omega
        case rel => exact ⟨2, rfl, by omega, rfl, rfl, fun _ => (by first | rfl | trivial), fun _ => (by first | rfl | trivial)⟩
      · have hzB : (b != 0) = true := by simpa using hz
        clear ha hb
        go_wp2_with fail
        go_ret
        simp
    · obtain rfl := ha (by omega)
      obtain rfl := hb (by omega)
      clear ha hb
      go_wp2_with fail
      go_ret
      simp

theorem compare_is (a b : Int) (w : World) : Calls Tryd.prog 42 #[.int .i64 a, .int .i64 b] w fun e w' => e = .returned (.int .i64 (Lib.compareInt a b)) ∧ w = w' :=
  (Tryd.cmp_Compare_int a b w).mono fun _ _ h => ⟨h.1, h.2.symm⟩

theorem cs_below {B : Nat} {a b c d : Value} {w w' : World} (h : w.cell? ⟨B, 1, none⟩ = some a ∧ w.cell? ⟨B, 2, none⟩ = some b ∧ w.cell? ⟨B + 1, 1, none⟩ = some c ∧ w.cell? ⟨B + 1, 2, none⟩ = some d) (hb : Below w.heap.size w.drew w') (hB : B + 1 < w.heap.size) :
    w'.cell? ⟨B, 1, none⟩ = some a ∧ w'.cell? ⟨B, 2, none⟩ = some b ∧ w'.cell? ⟨B + 1, 1, none⟩ = some c ∧ w'.cell? ⟨B + 1, 2, none⟩ = some d :=
  ⟨by rw [hb.cell (show B < w.heap.size by omega)]; exact h.1, by rw [hb.cell (show B < w.heap.size by omega)]; exact h.2.1, by rw [hb.cell hB]; exact h.2.2.1, by rw [hb.cell hB]; exact h.2.2.2⟩

set_option maxHeartbeats 1600000 in
theorem comparing (x y : El) (w : World) : Calls Tryd.prog 26 #[.agg #[.int .i64 x.1, .int .i64 x.2.1, .int .i64 x.2.2.1], .agg #[.int .i64 y.1, .int .i64 y.2.1, .int .i64 y.2.2.1]] w fun e w' => e = .returned (.int .i64 (cfE x y)) ∧ ∃ q os', w' = grow (w.drewN q) os' := by
  unfold cfE
  obtain ⟨x1, x2, x3, x4⟩ := x
  obtain ⟨y1, y2, y3, y4⟩ := y
  dsimp only
  have hb1 := blk_alloc (blk_new w #[.int .i64 x1, .int .i64 x2, .int .i64 x3] 39) (.cells #[.int .i64 y1, .int .i64 y2, .int .i64 y3] 39)
  have hb2 := blk_new (w.alloc (.cells #[.int .i64 x1, .int .i64 x2, .int .i64 x3] 39)) #[.int .i64 y1, .int .i64 y2, .int .i64 y3] 39
  rw [show (w.alloc (.cells #[.int .i64 x1, .int .i64 x2, .int .i64 x3] 39)).heap.size = w.heap.size + 1 by simp] at hb2
  have hg := Lib.hid (gr_alloc (gr_alloc (gr_refl w) (.cells #[.int .i64 x1, .int .i64 x2, .int .i64 x3] 39)) (.cells #[.int .i64 y1, .int .i64 y2, .int .i64 y3] 39))
  have hcs := Lib.hid (show _ = some (Value.int .i64 x2) ∧ _ = some (Value.int .i64 x3) ∧ _ = some (Value.int .i64 y2) ∧ _ = some (Value.int .i64 y3) from ⟨blk_cell hb1 1 _ rfl, blk_cell hb1 2 _ rfl, blk_cell hb2 1 _ rfl, blk_cell hb2 2 _ rfl⟩)
  have hsz : ((w.alloc (.cells #[.int .i64 x1, .int .i64 x2, .int .i64 x3] 39)).alloc (.cells #[.int .i64 y1, .int .i64 y2, .int .i64 y3] 39)).heap.size = w.heap.size + 2 := by simp
  have hc1 := Lib.hid (fun W => compare_is x2 y2 W)
  have hc2 := Lib.hid (fun W => compare_is x3 y3 W)
  obtain ⟨r1, hr1⟩ : ∃ r, Lib.compareInt x2 y2 = r := ⟨_, rfl⟩
  obtain ⟨r2, hr2⟩ : ∃ r, Lib.compareInt x3 y3 = r := ⟨_, rfl⟩
  rw [hr1] at hc1 ⊢
  rw [hr2] at hc2 ⊢
  obtain ⟨r, hr⟩ : ∃ r, (if r1 = 0 then r2 else r1) = r := ⟨_, rfl⟩
  rw [hr]
  replace hr := Lib.hid hr
  clear hb1 hb2 hr1 hr2
  have hsz' := Lib.hid hsz
  clear hsz
  go_enter Tryd.func26, Tryd.ntmps26
  go_upto_region 1 with (fail)
  generalize (w.alloc (.cells #[.int .i64 x1, .int .i64 x2, .int .i64 x3] 39)).alloc (.cells #[.int .i64 y1, .int .i64 y2, .int .i64 y3] 39) = w1 at hg hcs hsz' ⊢
  refine wp_region_held_drew (S := fun w' => w'.cell? ⟨w.heap.size, 1, none⟩ = some (.int .i64 x2) ∧ w'.cell? ⟨w.heap.size, 2, none⟩ = some (.int .i64 x3) ∧ w'.cell? ⟨w.heap.size + 1, 1, none⟩ = some (.int .i64 y2) ∧ w'.cell? ⟨w.heap.size + 1, 2, none⟩ = some (.int .i64 y3)) (by kernel_rfl) (hcs.out) (fun hS => ?_)
  refine' wpAnyH_take (i := 0) (oi := ⟨_, _, _, _, _, _⟩) (v := _) rfl (by kernel_rfl) (by kernel_rfl) (by kernel_rfl) (fun _ _ _ h => h) (Or.inl ⟨by rfl, ?hy0⟩) hS ?rest0
  case hy0 => (intro wz hSw; (try dsimp only at hSw); go_simp; try with_reducible rfl)
  try simp only [Act.put, List.setIfInBounds_toArray, List.set_cons_zero, List.set_cons_succ]
  refine' wpAnyH_take (i := 1) (oi := ⟨_, _, _, _, _, _⟩) (v := _) rfl (by kernel_rfl) (by kernel_rfl) (by kernel_rfl) (fun _ _ _ h => h) (Or.inl ⟨by rfl, ?hy1⟩) hS ?rest1
  case hy1 => (intro wz hSw; (try dsimp only at hSw); go_simp; try with_reducible rfl)
  try simp only [Act.put, List.setIfInBounds_toArray, List.set_cons_zero, List.set_cons_succ]
  refine' wpAnyH_take (i := 2) (oi := ⟨_, _, _, _, _, _⟩) (v := _) rfl (by kernel_rfl) (by kernel_rfl) (by kernel_rfl) (fun _ _ _ h => h) (Or.inl ⟨by rfl, ?hy2⟩) hS ?rest2
  case hy2 => (intro wz hSw; (try dsimp only at hSw); go_simp; try with_reducible rfl)
  try simp only [Act.put, List.setIfInBounds_toArray, List.set_cons_zero, List.set_cons_succ]
  refine' wpAnyH_take (i := 3) (oi := ⟨_, _, _, _, _, _⟩) (v := _) rfl (by kernel_rfl) (by kernel_rfl) (by kernel_rfl) (fun _ _ _ h => h) (Or.inl ⟨by rfl, ?hy3⟩) hS ?rest3
  case hy3 => (intro wz hSw; (try dsimp only at hSw); go_simp; try with_reducible rfl)
  try simp only [Act.put, List.setIfInBounds_toArray, List.set_cons_zero, List.set_cons_succ]
  refine' wpAnyH_take (i := 5) (oi := ⟨_, _, _, _, _, _⟩) (v := _) rfl (by kernel_rfl) (by kernel_rfl) (by kernel_rfl) (fun _ _ _ h => h) (Or.inl ⟨by rfl, ?hy5⟩) hS ?rest5
  case hy5 => (intro wz hSw; (try dsimp only at hSw); go_simp; try with_reducible rfl)
  try simp only [Act.put, List.setIfInBounds_toArray, List.set_cons_zero, List.set_cons_succ]
  refine' wpAnyH_take (i := 6) (oi := ⟨_, _, _, _, _, _⟩) (v := _) rfl (by kernel_rfl) (by kernel_rfl) (by kernel_rfl) (fun _ _ _ h => h) (Or.inl ⟨by rfl, ?hy6⟩) hS ?rest6
  case hy6 => (intro wz hSw; (try dsimp only at hSw); go_simp; try with_reducible rfl)
  try simp only [Act.put, List.setIfInBounds_toArray, List.set_cons_zero, List.set_cons_succ]
  refine' wpAnyH_take (i := 7) (oi := ⟨_, _, _, _, _, _⟩) (v := _) rfl (by kernel_rfl) (by kernel_rfl) (by kernel_rfl) (fun _ _ _ h => h) (Or.inl ⟨by rfl, ?hy7⟩) hS ?rest7
  case hy7 => (intro wz hSw; (try dsimp only at hSw); go_simp; try with_reducible rfl)
  try simp only [Act.put, List.setIfInBounds_toArray, List.set_cons_zero, List.set_cons_succ]
  refine' wpAnyH_take (i := 8) (oi := ⟨_, _, _, _, _, _⟩) (v := _) rfl (by kernel_rfl) (by kernel_rfl) (by kernel_rfl) (fun _ _ _ h => h) (Or.inl ⟨by rfl, ?hy8⟩) hS ?rest8
  case hy8 => (intro wz hSw; (try dsimp only at hSw); go_simp; try with_reducible rfl)
  try simp only [Act.put, List.setIfInBounds_toArray, List.set_cons_zero, List.set_cons_succ]
  refine wpAnyH_ready (rs := [4]) (by kernel_rfl) (by simp) (AllReadyH.cons rfl (fun K hK => ?_) AllReadyH.nil)
  go_simp
  go_at_call 42
  refine (hc1.out _).mono ?_
  rintro e w2 ⟨rfl, rfl⟩
  go_wp2_with fail
  refine hK.out _ _ (hcs.out) (fun hSn => ?_)
  clear hS
  have hS := hSn
  clear hSn
  clear hK K
  try simp only [Act.put, List.setIfInBounds_toArray, List.set_cons_zero, List.set_cons_succ]
  refine wpAnyH_ready (rs := [9]) (by kernel_rfl) (by simp) (AllReadyH.cons rfl (fun K hK => ?_) AllReadyH.nil)
  go_simp
  go_at_call 42
  refine (hc2.out _).mono ?_
  rintro e w2 ⟨rfl, rfl⟩
  go_wp2_with fail
  refine hK.out _ _ (hcs.out) (fun hSn => ?_)
  clear hS
  have hS := hSn
  clear hSn
  clear hK K
  try simp only [Act.put, List.setIfInBounds_toArray, List.set_cons_zero, List.set_cons_succ]
  have hcs2 := Lib.hid (cs_below (w' := w1.drew.alloc (.cells #[.int .i64 r1, .int .i64 r2] 3)) (w := w1) hcs.out ((below_new w1.drew _)) (by have := hsz'.out; omega))
  refine wpAnyH_ready (rs := [10]) (by kernel_rfl) (by simp) (AllReadyH.cons rfl (fun K hK => ?_) AllReadyH.nil)
  go_simp
  go_wp2_with fail
  refine hK.out _ _ (hcs2.out) (fun hSn => ?_)
  clear hS
  have hS := hSn
  clear hSn
  clear hK K
  try simp only [Act.put, List.setIfInBounds_toArray, List.set_cons_zero, List.set_cons_succ]
  have hor := or_two r1 r2 w1.heap.size (w1.drew.alloc (.cells #[.int .i64 r1, .int .i64 r2] 3)) (blk_cell (blk_new w1.drew _ _) 0 _ rfl) (blk_cell (blk_new w1.drew _ _) 1 _ rfl)
  rw [hr.out] at hor
  replace hor := Lib.hid hor
  refine wpAnyH_ready (rs := [11]) (by kernel_rfl) (by simp) (AllReadyH.cons rfl (fun K hK => ?_) AllReadyH.nil)
  go_simp
  go_at_call 41
  refine hor.out.mono ?_
  rintro e w2 ⟨rfl, rfl⟩
  go_wp2_with fail
  refine hK.out _ _ (hcs2.out) (fun hSn => ?_)
  clear hS
  have hS := hSn
  clear hSn
  clear hK K
  try simp only [Act.put, List.setIfInBounds_toArray, List.set_cons_zero, List.set_cons_succ]
  refine' wpAnyH_take (i := 12) (oi := ⟨_, _, _, _, _, _⟩) (v := _) rfl (by kernel_rfl) (by kernel_rfl) (by kernel_rfl) (fun _ _ _ h => h) (Or.inl ⟨by rfl, ?hy12⟩) hS ?rest12
  case hy12 => (intro wz hSw; (try dsimp only at hSw); go_simp; try with_reducible rfl)
  try simp only [Act.put, List.setIfInBounds_toArray, List.set_cons_zero, List.set_cons_succ]
  refine wpAnyH_done (by kernel_rfl) ?_ _
  go_simp
  go_wp2_with fail
  go_ret
  exact ⟨rfl, gr_alloc (gr_drew hg.out) _⟩
end Go.Proofs.YtkhjkodeolaemaaDoor
