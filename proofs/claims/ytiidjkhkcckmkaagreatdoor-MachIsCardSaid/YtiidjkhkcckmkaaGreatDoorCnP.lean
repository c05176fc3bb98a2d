/- Texts that stand together. -/
import Derived.Test.YtiidjkhkcckmkaaGreatDoorMthP
import Derived.Test.YtiidjkhkcckmkaaGreatDoorBasP
import Derived.Laws.OwnMore
import Derived.Test.YtiidjkhkcckmkaaGreatDoorSwP
import Derived.Deep.DeepCutAuto
import Derived.Deep.RegionHeld3
import Derived.WalkKit
import Derived.Test.YtiidjkhkcckmkaaGreatDoorShelf
import Derived.Deep.RegionHeld
import Derived.OrdersHeld
import Derived.Test.YtiidjkhkcckmkaaGreatDoorPrP
import Derived.Laws.MakeOwn
import Derived.Test.YtiidjkhkcckmkaaGreatDoorPaP
/- Layer 7: what is put together, by the places in the list; a cell of an own slice, written. -/
namespace Go.Proofs.YtiidjkhkcckmkaaGreatDoor
set_option linter.unusedSimpArgs false
set_option linter.unusedVariables false
open Go.RowKit Go.Lib
namespace Can
open Prp (mrkB cccI)
open Par (joinI)
theorem putR_past (f : Int → Option Int) (A B : List Int) (h : ∀ x ∈ A, mrkB x = true) : putR f (A ++ B) = (putR f B).map (A ++ ·) := by
  induction A with
  | nil => simp
  | cons x t ih =>
    rw [List.cons_append, putR, if_pos (h x (List.mem_cons_self ..)), ih fun y hy => h y (List.mem_cons_of_mem _ hy)]
    cases putR f B <;> simp
theorem rev_at (m : List Int) (k : Nat) (hk : k < m.length) : m.reverse = (m.drop (k + 1)).reverse ++ (m[k] :: (m.take k).reverse) := by
  have e : m = m.take k ++ m[k] :: m.drop (k + 1) := by
    rw [List.getElem_cons_drop]
    exact (List.take_append_drop k m).symm
  conv => lhs; rw [e]
  rw [List.reverse_append, List.reverse_cons, List.append_assoc]
  rfl
theorem putR_at (f : Int → Option Int) (m : List Int) (k : Nat) (hk : k < m.length) (hm : mrkB m[k] = false) (h : ∀ j (hj : j < m.length), k < j → mrkB m[j] = true) :
    putR f m.reverse = (f m[k]).map fun v => (m.set k v).reverse := by
  rw [rev_at m k hk, putR_past]
  · rw [putR, if_neg (by rw [hm]; simp)]
    cases f m[k] with
    | none => rfl
    | some v =>
      have hs : (m.set k v).reverse = (m.drop (k + 1)).reverse ++ (v :: (m.take k).reverse) := by
        rw [rev_at (m.set k v) k (by simpa using hk), List.getElem_set_self, List.drop_set_of_lt (by omega), List.take_set_of_le (by omega)]
      show some ((m.drop (k + 1)).reverse ++ (v :: (m.take k).reverse)) = some (m.set k v).reverse
      rw [hs]
  · intro x hx
    rw [List.mem_reverse] at hx
    obtain ⟨j, hj, rfl⟩ := List.mem_iff_getElem.1 hx
    rw [List.length_drop] at hj
    rw [List.getElem_drop]
    exact h _ (by omega) (by omega)
theorem putR_none (f : Int → Option Int) (R : List Int) (h : ∀ x ∈ R, mrkB x = true) : putR f R = none := by
  have := putR_past f R [] h
  rw [List.append_nil] at this
  rw [this]
  rfl
theorem cstep_marks (m : List Int) (r : Int) (h : ∀ j (hj : j < m.length), mrkB m[j] = true) : cstep m.reverse r = r :: m.reverse := by
  unfold cstep
  split
  · rfl
  · rw [putR_none]
    · rfl
    · intro x hx
      rw [List.mem_reverse] at hx
      obtain ⟨j, hj, rfl⟩ := List.mem_iff_getElem.1 hx
      exact h j hj
theorem block_last (m : List Int) (L : Nat) (hL : m.length = L + 1) (r : Int) : blockR r m.reverse = (mrkB (m[L]'(by omega)) && decide (cccI r ≤ cccI (m[L]'(by omega)))) := by
  rw [rev_at m L (by omega)]
  rw [List.drop_of_length_le (by omega)]
  rfl
theorem cstep_block (m : List Int) (L : Nat) (hL : m.length = L + 1) (r : Int) (h1 : mrkB (m[L]'(by omega)) = true) (h2 : cccI r ≤ cccI (m[L]'(by omega))) : cstep m.reverse r = r :: m.reverse := by
  unfold cstep
  rw [if_pos (by rw [block_last m L hL, h1, decide_eq_true h2]; rfl)]
theorem cstep_head (m : List Int) (L : Nat) (hL : m.length = L + 1) (r : Int) (k : Nat) (hk : k < m.length) (hm : mrkB m[k] = false) (h : ∀ j (hj : j < m.length), k < j → mrkB m[j] = true)
    (hb : ¬ (mrkB (m[L]'(by omega)) = true ∧ cccI r ≤ cccI (m[L]'(by omega)))) : cstep m.reverse r = match joinI m[k] r with | some v => (m.set k v).reverse | none => r :: m.reverse := by
  unfold cstep
  have hbl : blockR r m.reverse = false := by
    rw [block_last m L hL]
    simp only [Bool.and_eq_false_imp, decide_eq_false_iff_not]
    exact fun h1 h2 => hb ⟨h1, h2⟩
  rw [if_neg (by rw [hbl]; simp), putR_at _ m k hk hm h]
  cases joinI m[k] r <;> rfl
theorem compose_snoc (l : List Int) (x : Int) : composeI (l ++ [x]) = (cstep (composeI l).reverse x).reverse := by
  unfold composeI
  rw [compR_app, List.reverse_reverse]
  rfl
end Can
theorem ownI_store {B g cap n : Nat} {l : List Int} {w : World} (h : OwnI B (.slice (some ⟨g, 0, none⟩) n cap) l w) (hn : n = l.length) (k : Nat) (v : Int) :
    OwnI B (.slice (some ⟨g, 0, none⟩) n cap) (l.set k v) (w.setCell ⟨g, k, none⟩ (.int .i64 v)) := by
  subst hn
  have h2 := (World.ownsRow.stored h k (.int .i64 v)).1
  have e : (cellsI l).set k (.int .i64 v) = cellsI (l.set k v) := by simp
  rw [e] at h2
  exact ownI_of_row h2 (by simp) rfl
end Go.Proofs.YtiidjkhkcckmkaaGreatDoor

/- Layer 7: the code's way to compare two places; what the stable sort asks of this program. -/
namespace Go.Proofs.YtiidjkhkcckmkaaGreatDoor
set_option linter.unusedSimpArgs false
set_option linter.unusedVariables false
open Go.Shelf Go.RowKit Go.Lib Go.Sort
open Stb
def Gr (w w' : World) : Prop := ∃ q os, w' = grow (w.drewN q) os
theorem gr_refl (w : World) : Gr w w := ⟨0, #[], by rw [grow_empty]; rfl⟩
theorem gr_alloc {w w' : World} (h : Gr w w') (o : Obj) : Gr w (w'.alloc o) := by
  obtain ⟨q, os, rfl⟩ := h
  exact ⟨q, os ++ #[o], by rw [alloc_eq_grow, grow_grow]⟩
theorem gr_drewN {w w' : World} (h : Gr w w') (n : Nat) : Gr w (w'.drewN n) := by
  obtain ⟨q, os, rfl⟩ := h
  exact ⟨q + n, os, by show _ = grow ((w.drewN (q + n))) os; rw [← World.drewN_drewN]; rfl⟩
theorem gr_drew {w w' : World} (h : Gr w w') : Gr w w'.drew := gr_drewN h 1
def cfE (x y : El) : Int := if Lib.compareInt x.2.1 y.2.1 = 0 then Lib.compareInt x.2.2.1 y.2.2.1 else Lib.compareInt x.2.1 y.2.1
theorem cfE_kl (x y : El) : cfE x y < 0 ↔ KL x y := by
  unfold cfE Lib.compareInt KL
  (repeat' split) <;> omega
theorem or_two (a b : Int) (k : Nat) (w : World) (h0 : w.cell? ⟨k, 0, none⟩ = some (.int .i64 a)) (h1 : w.cell? ⟨k, 1, none⟩ = some (.int .i64 b)) :
    Calls Tryz.prog 150 #[.slice (some ⟨k, 0, none⟩) 2 2] w fun e w' => e = .returned (.int .i64 (if a = 0 then b else a)) ∧ w' = w := by
  go_enter Tryz.func150, Tryz.ntmps150
  go_wp2_with fail
  go_loopg [5, 8] 2 (fun g v5 v8 wr => ∃ j : Nat, v8 = .int .i64 j ∧ j ≤ 2 ∧ g = 2 - j ∧ wr = w ∧ (1 ≤ j → a = 0) ∧ (2 ≤ j → b = 0))
  case atStart => exact ⟨0, rfl, by omega, rfl, rfl, fun h => by omega, fun h => by omega⟩
  case round =>
    obtain ⟨j, rfl, hj, rfl, rfl, ha, hb⟩ := hrel
    rcases (show j = 0 ∨ j = 1 ∨ j = 2 by omega) with rfl | rfl | rfl
    · by_cases hz : a = 0
      · subst hz
        go_wp2_with fail
        go_roundg 1
        case measure => omega
        case rel => exact ⟨1, rfl, by omega, rfl, rfl, fun _ => (by first | rfl | trivial), fun h => by omega⟩
      · have hzB : (a != 0) = true := by simpa using hz
        clear ha hb
        go_wp2_with fail
        go_ret
        simp [hz]
    · obtain rfl := ha (by omega)
      by_cases hz : b = 0
      · subst hz
        go_wp2_with fail
        go_roundg 0
        case measure => omega
        case rel => exact ⟨2, rfl, by omega, rfl, rfl, fun _ => (by first | rfl | trivial), fun _ => (by first | rfl | trivial)⟩
      · have hzB : (b != 0) = true := by simpa using hz
        clear ha hb
        go_wp2_with fail
        go_ret
        simp
    · obtain rfl := ha (by omega)
      obtain rfl := hb (by omega)
      clear ha hb
      go_wp2_with fail
      go_ret
      simp
theorem compare_is (a b : Int) (w : World) : Calls Tryz.prog 151 #[.int .i64 a, .int .i64 b] w fun e w' => e = .returned (.int .i64 (Lib.compareInt a b)) ∧ w = w' :=
  (Tryz.cmp_Compare_int a b w).mono fun _ _ h => ⟨h.1, h.2.symm⟩
theorem cs_below {B : Nat} {a b c d : Value} {w w' : World} (h : w.cell? ⟨B, 1, none⟩ = some a ∧ w.cell? ⟨B, 2, none⟩ = some b ∧ w.cell? ⟨B + 1, 1, none⟩ = some c ∧ w.cell? ⟨B + 1, 2, none⟩ = some d) (hb : Below w.heap.size w.drew w') (hB : B + 1 < w.heap.size) :
    w'.cell? ⟨B, 1, none⟩ = some a ∧ w'.cell? ⟨B, 2, none⟩ = some b ∧ w'.cell? ⟨B + 1, 1, none⟩ = some c ∧ w'.cell? ⟨B + 1, 2, none⟩ = some d :=
  ⟨by rw [hb.cell (show B < w.heap.size by omega)]; exact h.1, by rw [hb.cell (show B < w.heap.size by omega)]; exact h.2.1, by rw [hb.cell hB]; exact h.2.2.1, by rw [hb.cell hB]; exact h.2.2.2⟩
set_option maxHeartbeats 1600000 in
theorem comparing (x y : El) (w : World) : Calls Tryz.prog 121 #[.agg #[.int .i64 x.1, .int .i64 x.2.1, .int .i64 x.2.2.1], .agg #[.int .i64 y.1, .int .i64 y.2.1, .int .i64 y.2.2.1]] w fun e w' => e = .returned (.int .i64 (cfE x y)) ∧ ∃ q os', w' = grow (w.drewN q) os' := by
  unfold cfE
  obtain ⟨x1, x2, x3, x4⟩ := x
  obtain ⟨y1, y2, y3, y4⟩ := y
  dsimp only
  have hb1 := blk_alloc (blk_new w #[.int .i64 x1, .int .i64 x2, .int .i64 x3] 142) (.cells #[.int .i64 y1, .int .i64 y2, .int .i64 y3] 142)
  have hb2 := blk_new (w.alloc (.cells #[.int .i64 x1, .int .i64 x2, .int .i64 x3] 142)) #[.int .i64 y1, .int .i64 y2, .int .i64 y3] 142
  rw [show (w.alloc (.cells #[.int .i64 x1, .int .i64 x2, .int .i64 x3] 142)).heap.size = w.heap.size + 1 by simp] at hb2
  have hg := Lib.hid (gr_alloc (gr_alloc (gr_refl w) (.cells #[.int .i64 x1, .int .i64 x2, .int .i64 x3] 142)) (.cells #[.int .i64 y1, .int .i64 y2, .int .i64 y3] 142))
  have hcs := Lib.hid (show _ = some (Value.int .i64 x2) ∧ _ = some (Value.int .i64 x3) ∧ _ = some (Value.int .i64 y2) ∧ _ = some (Value.int .i64 y3) from ⟨blk_cell hb1 1 _ rfl, blk_cell hb1 2 _ rfl, blk_cell hb2 1 _ rfl, blk_cell hb2 2 _ rfl⟩)
  have hsz : ((w.alloc (.cells #[.int .i64 x1, .int .i64 x2, .int .i64 x3] 142)).alloc (.cells #[.int .i64 y1, .int .i64 y2, .int .i64 y3] 142)).heap.size = w.heap.size + 2 := by simp
  have hc1 := Lib.hid (fun W => compare_is x2 y2 W)
  have hc2 := Lib.hid (fun W => compare_is x3 y3 W)
  obtain ⟨r1, hr1⟩ : ∃ r, Lib.compareInt x2 y2 = r := ⟨_, rfl⟩
  obtain ⟨r2, hr2⟩ : ∃ r, Lib.compareInt x3 y3 = r := ⟨_, rfl⟩
  rw [hr1] at hc1 ⊢
  rw [hr2] at hc2 ⊢
  obtain ⟨r, hr⟩ : ∃ r, (if r1 = 0 then r2 else r1) = r := ⟨_, rfl⟩
  rw [hr]
  replace hr := Lib.hid hr
  clear hb1 hb2 hr1 hr2
  have hsz' := Lib.hid hsz
  clear hsz
  go_enter Tryz.func121, Tryz.ntmps121
  go_upto_region 1 with (fail)
  generalize (w.alloc (.cells #[.int .i64 x1, .int .i64 x2, .int .i64 x3] 142)).alloc (.cells #[.int .i64 y1, .int .i64 y2, .int .i64 y3] 142) = w1 at hg hcs hsz' ⊢
  refine wp_region_held_drew (S := fun w' => w'.cell? ⟨w.heap.size, 1, none⟩ = some (.int .i64 x2) ∧ w'.cell? ⟨w.heap.size, 2, none⟩ = some (.int .i64 x3) ∧ w'.cell? ⟨w.heap.size + 1, 1, none⟩ = some (.int .i64 y2) ∧ w'.cell? ⟨w.heap.size + 1, 2, none⟩ = some (.int .i64 y3)) (by kernel_rfl) (hcs.out) (fun hS => ?_)
  refine' wpAnyH_take (i := 0) (oi := ⟨_, _, _, _, _, _⟩) (v := _) rfl (by kernel_rfl) (by kernel_rfl) (by kernel_rfl) (fun _ _ _ h => h) (Or.inl ⟨by rfl, ?hy0⟩) hS ?rest0
  case hy0 => (intro wz hSw; (try dsimp only at hSw); go_simp; try with_reducible rfl)
  try simp only [Act.put, List.setIfInBounds_toArray, List.set_cons_zero, List.set_cons_succ]
  refine' wpAnyH_take (i := 1) (oi := ⟨_, _, _, _, _, _⟩) (v := _) rfl (by kernel_rfl) (by kernel_rfl) (by kernel_rfl) (fun _ _ _ h => h) (Or.inl ⟨by rfl, ?hy1⟩) hS ?rest1
  case hy1 => (intro wz hSw; (try dsimp only at hSw); go_simp; try with_reducible rfl)
  try simp only [Act.put, List.setIfInBounds_toArray, List.set_cons_zero, List.set_cons_succ]
  refine' wpAnyH_take (i := 2) (oi := ⟨_, _, _, _, _, _⟩) (v := _) rfl (by kernel_rfl) (by kernel_rfl) (by kernel_rfl) (fun _ _ _ h => h) (Or.inl ⟨by rfl, ?hy2⟩) hS ?rest2
  case hy2 => (intro wz hSw; (try dsimp only at hSw); go_simp; try with_reducible rfl)
  try simp only [Act.put, List.setIfInBounds_toArray, List.set_cons_zero, List.set_cons_succ]
  refine' wpAnyH_take (i := 3) (oi := ⟨_, _, _, _, _, _⟩) (v := _) rfl (by kernel_rfl) (by kernel_rfl) (by kernel_rfl) (fun _ _ _ h => h) (Or.inl ⟨by rfl, ?hy3⟩) hS ?rest3
  case hy3 => (intro wz hSw; (try dsimp only at hSw); go_simp; try with_reducible rfl)
  try simp only [Act.put, List.setIfInBounds_toArray, List.set_cons_zero, List.set_cons_succ]
  refine' wpAnyH_take (i := 5) (oi := ⟨_, _, _, _, _, _⟩) (v := _) rfl (by kernel_rfl) (by kernel_rfl) (by kernel_rfl) (fun _ _ _ h => h) (Or.inl ⟨by rfl, ?hy5⟩) hS ?rest5
  case hy5 => (intro wz hSw; (try dsimp only at hSw); go_simp; try with_reducible rfl)
  try simp only [Act.put, List.setIfInBounds_toArray, List.set_cons_zero, List.set_cons_succ]
  refine' wpAnyH_take (i := 6) (oi := ⟨_, _, _, _, _, _⟩) (v := _) rfl (by kernel_rfl) (by kernel_rfl) (by kernel_rfl) (fun _ _ _ h => h) (Or.inl ⟨by rfl, ?hy6⟩) hS ?rest6
  case hy6 => (intro wz hSw; (try dsimp only at hSw); go_simp; try with_reducible rfl)
  try simp only [Act.put, List.setIfInBounds_toArray, List.set_cons_zero, List.set_cons_succ]
  refine' wpAnyH_take (i := 7) (oi := ⟨_, _, _, _, _, _⟩) (v := _) rfl (by kernel_rfl) (by kernel_rfl) (by kernel_rfl) (fun _ _ _ h => h) (Or.inl ⟨by rfl, ?hy7⟩) hS ?rest7
  case hy7 => (intro wz hSw; (try dsimp only at hSw); go_simp; try with_reducible rfl)
  try simp only [Act.put, List.setIfInBounds_toArray, List.set_cons_zero, List.set_cons_succ]
  refine' wpAnyH_take (i := 8) (oi := ⟨_, _, _, _, _, _⟩) (v := _) rfl (by kernel_rfl) (by kernel_rfl) (by kernel_rfl) (fun _ _ _ h => h) (Or.inl ⟨by rfl, ?hy8⟩) hS ?rest8
  case hy8 => (intro wz hSw; (try dsimp only at hSw); go_simp; try with_reducible rfl)
  try simp only [Act.put, List.setIfInBounds_toArray, List.set_cons_zero, List.set_cons_succ]
  refine wpAnyH_ready (rs := [4]) (by kernel_rfl) (by simp) (AllReadyH.cons rfl (fun K hK => ?_) AllReadyH.nil)
  go_simp
  go_at_call 151
  refine (hc1.out _).mono ?_
  rintro e w2 ⟨rfl, rfl⟩
  go_wp2_with fail
  refine hK.out _ _ (hcs.out) (fun hSn => ?_)
  clear hS
  have hS := hSn
  clear hSn
  clear hK K
  try simp only [Act.put, List.setIfInBounds_toArray, List.set_cons_zero, List.set_cons_succ]
  refine wpAnyH_ready (rs := [9]) (by kernel_rfl) (by simp) (AllReadyH.cons rfl (fun K hK => ?_) AllReadyH.nil)
  go_simp
  go_at_call 151
  refine (hc2.out _).mono ?_
  rintro e w2 ⟨rfl, rfl⟩
  go_wp2_with fail
  refine hK.out _ _ (hcs.out) (fun hSn => ?_)
  clear hS
  have hS := hSn
  clear hSn
  clear hK K
  try simp only [Act.put, List.setIfInBounds_toArray, List.set_cons_zero, List.set_cons_succ]
  have hcs2 := Lib.hid (cs_below (w' := w1.drew.alloc (.cells #[.int .i64 r1, .int .i64 r2] 3)) (w := w1) hcs.out ((below_new w1.drew _)) (by have := hsz'.out; omega))
  refine wpAnyH_ready (rs := [10]) (by kernel_rfl) (by simp) (AllReadyH.cons rfl (fun K hK => ?_) AllReadyH.nil)
  go_simp
  go_wp2_with fail
  refine hK.out _ _ (hcs2.out) (fun hSn => ?_)
  clear hS
  have hS := hSn
  clear hSn
  clear hK K
  try simp only [Act.put, List.setIfInBounds_toArray, List.set_cons_zero, List.set_cons_succ]
  have hor := or_two r1 r2 w1.heap.size (w1.drew.alloc (.cells #[.int .i64 r1, .int .i64 r2] 3)) (blk_cell (blk_new w1.drew _ _) 0 _ rfl) (blk_cell (blk_new w1.drew _ _) 1 _ rfl)
  rw [hr.out] at hor
  replace hor := Lib.hid hor
  refine wpAnyH_ready (rs := [11]) (by kernel_rfl) (by simp) (AllReadyH.cons rfl (fun K hK => ?_) AllReadyH.nil)
  go_simp
  go_at_call 150
  refine hor.out.mono ?_
  rintro e w2 ⟨rfl, rfl⟩
  go_wp2_with fail
  refine hK.out _ _ (hcs2.out) (fun hSn => ?_)
  clear hS
  have hS := hSn
  clear hSn
  clear hK K
  try simp only [Act.put, List.setIfInBounds_toArray, List.set_cons_zero, List.set_cons_succ]
  refine' wpAnyH_take (i := 12) (oi := ⟨_, _, _, _, _, _⟩) (v := _) rfl (by kernel_rfl) (by kernel_rfl) (by kernel_rfl) (fun _ _ _ h => h) (Or.inl ⟨by rfl, ?hy12⟩) hS ?rest12
  case hy12 => (intro wz hSw; (try dsimp only at hSw); go_simp; try with_reducible rfl)
  try simp only [Act.put, List.setIfInBounds_toArray, List.set_cons_zero, List.set_cons_succ]
  refine wpAnyH_done (by kernel_rfl) ?_ _
  go_simp
  go_wp2_with fail
  go_ret
  exact ⟨rfl, gr_alloc (gr_drew hg.out) _⟩
end Go.Proofs.YtiidjkhkcckmkaaGreatDoor

/- Layer 7: what the stable sort asks of this program holds; the code's sort, and its test whether places are in order. -/
namespace Go.Proofs.YtiidjkhkcckmkaaGreatDoor
set_option linter.unusedSimpArgs false
set_option linter.unusedVariables false
open Go.Shelf Go.RowKit Go.Lib Go.Sort
open Stb
theorem prg : Prg Tryz.prog 3 where
  mixed := by kernel_rfl
  t0 := Tryz.underlying0
  a0 := Tryz.isAgg0
  z0 := Tryz.sizeOf0
  v0 := Tryz.zeroValue0
  t3 := Tryz.underlying3
  a3 := Tryz.isAgg3
  z3 := Tryz.sizeOf3
  v3 := Tryz.zeroValue3
  t4 := Tryz.underlying4
  a4 := Tryz.isAgg4
  z4 := Tryz.sizeOf4
  v4 := Tryz.zeroValue4
  tU := Tryz.underlying175
  tS := Tryz.underlying140
  aS := Tryz.isAgg140
  zS := Tryz.sizeOf140
  vS := Tryz.zeroValue140
  tF := Tryz.underlying144
  aF := Tryz.isAgg144
  zF := Tryz.sizeOf144
  vF := Tryz.zeroValue144
  aE := Tryz.isAgg142
  zE := Tryz.sizeOf142
def encP (x : El) : List Value := [.int .i64 x.1, .int .i64 x.2.1, .int .i64 x.2.2.1]
theorem encP_len (x : El) : (encP x).length = 3 := rfl
theorem encP_one (x : El) : ∀ v ∈ encP x, v.oneCell' = true := by
  intro v hv
  simp only [encP, List.mem_cons, List.not_mem_nil, or_false] at hv
  rcases hv with rfl | rfl | rfl <;> rfl
theorem cmp_lays (blk off size : Nat) (w : World) : CmpLays Tryz.prog 121 #[] encP 3 cfE blk off size w := fun _ _ _ _ x y => comparing x y _
theorem cmp_enters : ∀ args w, (callFunc 121 args).run Tryz.prog w = .ok (.enter 121 args) w := enters_of Tryz.func121 (by kernel_rfl) rfl
theorem below_swk {B blk : Nat} {d : Array El} {w w' : World} (h : SWK encP 3 w blk 0 d w') (hB : B ≤ blk) (hb : blk < w.heap.size) : Below B w w' := by
  obtain ⟨n, os, rfl⟩ := h
  unfold sortWorldK putRowK putRow mapBlock grow
  refine ⟨rfl, rfl, rfl, by simp [Sort.ahead], fun i hi => ?_⟩
  show ((Array.modify w.heap blk _) ++ os)[i]? = _
  rw [Array.getElem?_append_left (by simp; omega), Array.getElem?_modify, if_neg (by omega)]
def downP (d : Array El) : Bool := (List.range (d.size - 1)).all fun i => !decide (KL d[i + 1]! d[i]!)
set_option maxHeartbeats 4000000 in
set_option maxRecDepth 1000000 in
theorem isSorted_abs {P : Program} {k : Nat} (L : Prg P k) (F : P.funcs[119]? = some Tryz.f119)
    (enc : El → List Value) (cf : El → El → Int) (hk : ∀ x y, cf x y < 0 ↔ KL x y) (g : Nat) (cb : Array Value) (blk off cap : Nat) (d : Array El) (w0 : World)
    (eg : ∀ args w, (callFunc g args).run P w = .ok (.enter g args) w) (hcmp : CmpLays P g cb enc k cf blk off d.size w0) (R : RP enc k w0 blk off d) (hsz : d.size ≤ 1000000) :
    Calls P 119 #[.slice (some ⟨blk, off, none⟩) d.size cap, .func (.func g) #[] cb] w0 fun e w' =>
      e = .returned (.bool (downP d)) ∧ SP enc k w0 blk off d w' := by
  have mixed := L.mixed; have t0 := L.t0; have a0 := L.a0; have z0 := L.z0; have v0 := L.v0; have t3 := L.t3; have a3 := L.a3; have z3 := L.z3; have v3 := L.v3; have t4 := L.t4; have a4 := L.a4; have z4 := L.z4; have v4 := L.v4; have tU := L.tU; have tS := L.tS; have aS := L.aS; have zS := L.zS; have vS := L.vS; have tF := L.tF; have aF := L.aF; have zF := L.zF; have vF := L.vF; have aE := L.aE; have zE := L.zE
  have S0 : Aside (SP enc k w0 blk off d w0) := SWK.start R.hH
  have HC : Aside _ := hcmp
  have HK : Aside _ := hk
  have HT : Aside ((∀ j : Nat, 0 ≤ j → j + 1 < d.size → ¬ KL d[j + 1]! d[j]!) → downP d = true) := fun h => by
    unfold downP
    rw [List.all_eq_true]
    intro j hj
    have hj' := List.mem_range.1 hj
    simpa using h j (Nat.zero_le _) (by omega)
  have HF : Aside (∀ j : Nat, j + 1 < d.size → KL d[j + 1]! d[j]! → downP d = false) := fun j hj h => by
    unfold downP
    rw [List.all_eq_false]
    exact ⟨j, List.mem_range.2 (by omega), by simpa using h⟩
  obtain ⟨B, hB⟩ : ∃ B, downP d = B := ⟨_, rfl⟩
  rw [hB]
  rw [hB] at HT HF
  clear hcmp hk hB
  go_enter F, Tryz.ntmps119
  clear L F
  go_wp2
  go_loopg [5] (d.size + 1) (fun gg v wr => ∃ i : Int, v = .int .i64 i ∧ i < d.size ∧ -1 ≤ i ∧ i < gg ∧ Aside (SP enc k w0 blk off d wr) ∧ Aside (∀ j : Nat, i ≤ j → j + 1 < d.size → ¬ KL d[j + 1]! d[j]!))
  case atStart => exact ⟨(d.size : Int) - 1, rfl, by omega, by omega, by omega, S0, fun j h1 h2 => by omega⟩
  case round =>
    clear S0
    obtain ⟨i, rfl, hin, hi1, hg, S1, V1⟩ := hrel
    by_cases hlt : 0 < i
    · obtain ⟨j, rfl⟩ : ∃ j : Nat, i = (j : Int) + 1 := ⟨(i - 1).toNat, by omega⟩
      have hj1 : j + 1 < d.size := by omega
      have hltB : decide ((j : Int) + 1 > 0) = true := decide_eq_true (by omega)
      by_cases hq : KL d[j + 1]! d[j]!
      · have HQ : Aside _ := HF.out j hj1 hq
        have eea : ((j : Int) + 1).toNat = j + 1 := by omega
        have pea : (0 : Int) ≤ (j : Int) + 1 := by omega
        have bea : (j : Int) + 1 < (d.size : Int) := by omega
        have rea : IntKind.i64.wrap ((j : Int) + 1) = (j : Int) + 1 := by rw [IntKind.wrap_i64]; omega
        have eeb : ((j : Int)).toNat = j := by omega
        have peb : (0 : Int) ≤ (j : Int) := by omega
        have beb : (j : Int) < (d.size : Int) := by omega
        have reb : IntKind.i64.wrap ((j : Int)) = (j : Int) := by rw [IntKind.wrap_i64]; omega
        obtain ⟨xa, hxa⟩ : ∃ zz, zz = d[j + 1]! := ⟨_, rfl⟩
        obtain ⟨xb, hxb⟩ : ∃ zz, zz = d[j]! := ⟨_, rfl⟩
        have l1 := S1.out.ld R (by omega) P (j + 1) (by omega)
        have l2 := S1.out.ld R (by omega) P (j) (by omega)
        rw [← hxa] at l1
        rw [← hxb] at l2
        have hc := S1.out.cmp HC.out (by omega) xa xb
        have hv : cf xa xb < 0 := by rw [hxa, hxb]; exact (HK.out _ _).2 hq
        have hd : decide (cf xa xb < 0) = true := decide_eq_true hv
        clear hxa hxb
        go_wp2_with fail
        go_quiet_grown (first | (go_at_fn g; refine Calls.grown_of (hc _ _)))
        have S2 : Aside (SP enc k w0 blk off d (grow (wr.drewN nq) osq)) := S1.out.grown nq osq
        clear l1 l2 hc S1
        generalize grow (wr.drewN nq) osq = w2 at S2 ⊢
        clear nq osq
        clear hq
        go_wp2
        go_ret
        rw [HQ.out]
        exact ⟨rfl, S2.out⟩
      · have HQ : Aside (¬ KL d[j + 1]! d[j]!) := hq
        have eea : ((j : Int) + 1).toNat = j + 1 := by omega
        have pea : (0 : Int) ≤ (j : Int) + 1 := by omega
        have bea : (j : Int) + 1 < (d.size : Int) := by omega
        have rea : IntKind.i64.wrap ((j : Int) + 1) = (j : Int) + 1 := by rw [IntKind.wrap_i64]; omega
        have eeb : ((j : Int)).toNat = j := by omega
        have peb : (0 : Int) ≤ (j : Int) := by omega
        have beb : (j : Int) < (d.size : Int) := by omega
        have reb : IntKind.i64.wrap ((j : Int)) = (j : Int) := by rw [IntKind.wrap_i64]; omega
        obtain ⟨xa, hxa⟩ : ∃ zz, zz = d[j + 1]! := ⟨_, rfl⟩
        obtain ⟨xb, hxb⟩ : ∃ zz, zz = d[j]! := ⟨_, rfl⟩
        have l1 := S1.out.ld R (by omega) P (j + 1) (by omega)
        have l2 := S1.out.ld R (by omega) P (j) (by omega)
        rw [← hxa] at l1
        rw [← hxb] at l2
        have hc := S1.out.cmp HC.out (by omega) xa xb
        have hv : ¬ cf xa xb < 0 := by rw [hxa, hxb]; exact fun h => hq ((HK.out _ _).1 h)
        have hd : decide (cf xa xb < 0) = false := decide_eq_false hv
        clear hxa hxb
        go_wp2_with fail
        go_quiet_grown (first | (go_at_fn g; refine Calls.grown_of (hc _ _)))
        have S2 : Aside (SP enc k w0 blk off d (grow (wr.drewN nq) osq)) := S1.out.grown nq osq
        clear l1 l2 hc S1
        generalize grow (wr.drewN nq) osq = w2 at S2 ⊢
        clear nq osq
        clear hq
        go_wp2
        go_roundg (j + 1)
        case measure => omega
        case rel =>
          refine ⟨(j : Int), by first | rfl | go_num | (congr 1; omega), by omega, by omega, by omega, S2, fun t ht h => ?_⟩
          rcases (show t = j ∨ j + 1 ≤ t by omega) with rfl | h2
          · exact HQ.out
          · exact V1.out t (by omega) h
    · have hltB : decide (i > 0) = false := decide_eq_false hlt
      have HQ : Aside _ := HT.out (fun j _ h => V1.out j (by omega) h)
      go_wp2
      go_ret
      rw [HQ.out]
      exact ⟨rfl, S1.out⟩
theorem isSorted_any (blk cap : Nat) (d : Array El) (w : World) (hH : HoldsK encP 3 w blk 0 d) (hb : blk < w.heap.size) (hsz : d.size ≤ 1000000) :
    Calls Tryz.prog 119 #[.slice (some ⟨blk, 0, none⟩) d.size cap, .func (.func 121) #[] #[]] w fun e w' =>
      e = .returned (.bool (downP d)) ∧ Below blk w w' := by
  refine (isSorted_abs prg Tryz.func119 encP cfE cfE_kl 121 #[] blk 0 cap d w cmp_enters (cmp_lays blk 0 d.size w) ⟨encP_len, encP_one, hH, hb⟩ hsz).mono ?_
  rintro e w' ⟨rfl, S⟩
  exact ⟨rfl, below_swk S (Nat.le_refl _) hb⟩
end Go.Proofs.YtiidjkhkcckmkaaGreatDoor

/- Layer 7: the code's places. -/
namespace Go.Proofs.YtiidjkhkcckmkaaGreatDoor
set_option linter.unusedSimpArgs false
set_option linter.unusedVariables false
open Go.Shelf Go.RowKit Go.Lib Go.Sort
open Stb
theorem blk_setAt7 {w : World} {k : Nat} {cs : Array Value} {T : TypeId} (h : Blk w k cs T) (i : Nat) (u : Value) : Blk (w.setCell ⟨k, i, none⟩ u) k (cs.setIfInBounds i u) T := by
  have := heap_setCell_same w k i cs T u h
  unfold Blk
  simpa using this
def rowAt (l : List Int) (k : Nat) : Int := cnt (placesR (l.take k) [])
theorem rowAt_zero (l : List Int) : rowAt l 0 = 0 := rfl
theorem rowAt_succ (l : List Int) (k : Nat) (h : k < l.length) : rowAt l (k + 1) = rowAt l k + (if Prp.cccI l[k] = 0 then 1 else 0) := by
  unfold rowAt
  rw [List.take_succ_eq_append_getElem h, placesR_snoc]
  unfold stepE
  rw [cnt_cons]
  dsimp only
  omega
theorem rowAt_bnd (l : List Int) : ∀ k, k ≤ l.length → 0 ≤ rowAt l k ∧ rowAt l k ≤ k
  | 0, _ => by rw [rowAt_zero]; omega
  | k + 1, h => by
    have := rowAt_bnd l k (by omega)
    rw [rowAt_succ l k (by omega)]
    split <;> omega
theorem placesI_snoc (l : List Int) (r : Int) : placesI (l ++ [r]) = placesI l ++ [(r, cnt (placesR l []) + (if Prp.cccI r = 0 then 1 else 0), Prp.cccI r, l.length)] := by
  unfold placesI
  rw [placesR_snoc]
  unfold stepE
  rw [List.reverse_cons, show (placesR l []).length = l.length by simp [placesR_len]]
theorem places_take (l : List Int) (k : Nat) (h : k < l.length) : placesI (l.take (k + 1)) = placesI (l.take k) ++ [(l[k], rowAt l (k + 1), Prp.cccI l[k], k)] := by
  rw [List.take_succ_eq_append_getElem h, placesI_snoc, rowAt_succ l k h, List.length_take, Nat.min_eq_left (by omega)]
  rfl
def partP (l : List Int) (k : Nat) : Array El := (placesI (l.take k) ++ List.replicate (l.length - k) default).toArray
theorem partP_size (l : List Int) (k : Nat) (h : k ≤ l.length) : (partP l k).size = l.length := by simp [partP, placesI_len]; omega
theorem partP_next (l : List Int) (k : Nat) (h : k < l.length) : (partP l k).setIfInBounds k (l[k], rowAt l (k + 1), Prp.cccI l[k], k) = partP l (k + 1) := by
  unfold partP
  rw [places_take l k h, List.setIfInBounds_toArray, show l.length - k = (l.length - (k + 1)) + 1 by omega, List.replicate_succ, List.set_append_right _ _ (by simp [placesI_len]; omega)]
  congr 1
  rw [show k - (placesI (l.take k)).length = 0 by simp [placesI_len]; omega]
  simp
theorem partP_last (l : List Int) : partP l l.length = (placesI l).toArray := by simp [partP]
theorem flat_set (d : Array El) (k : Nat) (hk : k < d.size) (x : El) :
    (((flatK encP 3 d).setIfInBounds (k * 3) (.int .i64 x.1)).setIfInBounds (k * 3 + 1) (.int .i64 x.2.1)).setIfInBounds (k * 3 + 2) (.int .i64 x.2.2.1) = flatK encP 3 (d.setIfInBounds k x) := by
  refine ext_get! (by simp) fun t ht => ?_
  have ht' : t < d.size * 3 := by simpa using ht
  rw [get_flatK _ _ _ _ (by simpa using ht')]
  have hg : ∀ i, i < d.size → (d.setIfInBounds k x)[i]! = if i = k then x else d[i]! := fun i hi => by
    by_cases e : i = k
    · subst e; rw [if_pos rfl, getElem!_set_same _ _ _ hi]
    · rw [if_neg e, Array.getElem!_eq_getD, Array.getD_eq_getD_getElem?, Array.getElem?_setIfInBounds, if_neg (fun h => e h.symm), Array.getElem!_eq_getD, Array.getD_eq_getD_getElem?]
  rw [hg (t / 3) (by omega)]
  have base : (flatK encP 3 d)[t]! = (encP d[t / 3]!)[t % 3]! := get_flatK _ _ _ _ ht'
  have step : ∀ (F : Array Value) (i : Nat) (v : Value), i < F.size → (F.setIfInBounds i v)[t]! = if t = i then v else F[t]! := fun F i v hi => by
    by_cases e : t = i
    · subst e; rw [if_pos rfl, getElem!_set_same _ _ _ hi]
    · rw [if_neg e, Array.getElem!_eq_getD, Array.getD_eq_getD_getElem?, Array.getElem?_setIfInBounds, if_neg (fun h => e h.symm), Array.getElem!_eq_getD, Array.getD_eq_getD_getElem?]
  rw [step _ _ _ (by simp; omega), step _ _ _ (by simp; omega), step _ _ _ (by simp; omega), base]
  by_cases e : t / 3 = k
  · rw [if_pos e]
    rcases (show t = k * 3 ∨ t = k * 3 + 1 ∨ t = k * 3 + 2 by omega) with h | h | h
    · rw [if_neg (by omega), if_neg (by omega), if_pos h, show t % 3 = 0 by omega]; rfl
    · rw [if_neg (by omega), if_pos h, show t % 3 = 1 by omega]; rfl
    · rw [if_pos h, show t % 3 = 2 by omega]; rfl
  · rw [if_neg e, if_neg (by omega), if_neg (by omega), if_neg (by omega)]
theorem info_p : (Tryz.prog.info? 142).map (fun i => (i.zero, i.size, i.bytes)) = some (some (.agg #[.int .i64 0, .int .i64 0, .int .i64 0]), 3, 24) := by kernel_rfl
theorem made_places (n : Nat) : madeCells (Value.agg #[.int .i64 0, .int .i64 0, .int .i64 0]).cells (n * 3) = flatK encP 3 (Array.replicate n default) := by
  refine ext_get! (by simp [size_madeCells]) fun t ht => ?_
  have ht' : t < n * 3 := by simpa [size_madeCells] using ht
  rw [get_flatK _ _ _ _ (by simpa using ht')]
  unfold madeCells
  rw [getElem!_pos _ t (by simpa using ht')]
  simp only [Array.getElem_map, Array.getElem_range, Value.cells, List.size_toArray, List.length_cons, List.length_nil]
  rw [show (Array.replicate n (default : El))[t / 3]! = default by rw [getElem!_pos _ _ (by simp; omega)]; simp]
  rcases (show t % 3 = 0 ∨ t % 3 = 1 ∨ t % 3 = 2 by omega) with h | h | h <;> rw [h] <;> rfl
theorem make_places (n : Nat) (hn : n ≤ 1000000) (W : World) : (Instr.makeSlice 140 (.int .i64 (n : Int)) (.int .i64 (n : Int))).run Tryz.prog W = .ok (.slice (some ⟨W.heap.size, 0, none⟩) n n) (W.alloc (.cells (flatK encP 3 (Array.replicate n default)) 142)) := by
  obtain ⟨i0, hi, h⟩ := Option.map_eq_some_iff.1 info_p
  simp only [Prod.mk.injEq] at h
  have hr := run_make (P := Tryz.prog) W 140 142 i0 _ Tryz.underlying140 hi h.1 .i64 .i64 (n : Int) (n : Int) (by omega) (Int.le_refl _) (by rw [h.2.2]; omega) (by omega)
  rw [Int.toNat_natCast, h.2.1, made_places] at hr
  exact hr
theorem holds_of_blk {w : World} {b : Nat} {d : Array El} {T : TypeId} (h : Blk w b (flatK encP 3 d) T) : HoldsK encP 3 w b 0 d := fun j hj => by
  rw [Nat.zero_add]
  exact ⟨blk_cell h j _ (by rw [getElem!_pos _ j hj]; exact Array.getElem?_eq_getElem hj), blk_thaw h j⟩
def Placed (l : List Int) (w : World) (e : Ending) (w' : World) : Prop := ∃ b, e = .returned (.slice (some ⟨b, 0, none⟩) l.length l.length) ∧ w.heap.size ≤ b ∧ b < w'.heap.size ∧ HoldsK encP 3 w' b 0 (placesI l).toArray ∧ Below w.heap.size w w'
theorem store3 {w : World} {b : Nat} {F : Array Value} {T : TypeId} (h : Blk w b F T) (s : Nat) (x y z : Value) (hs : s + 2 < F.size) :
    w.cell? ⟨b, s, none⟩ = some F[s]! ∧ w.frozen? ⟨b, s, none⟩ = false ∧ (w.setCell ⟨b, s, none⟩ x).cell? ⟨b, s + 1, none⟩ = some F[s + 1]! ∧ (w.setCell ⟨b, s, none⟩ x).frozen? ⟨b, s + 1, none⟩ = false ∧
    ((w.setCell ⟨b, s, none⟩ x).setCell ⟨b, s + 1, none⟩ y).cell? ⟨b, s + 2, none⟩ = some F[s + 2]! ∧ ((w.setCell ⟨b, s, none⟩ x).setCell ⟨b, s + 1, none⟩ y).frozen? ⟨b, s + 2, none⟩ = false ∧
    Blk (((w.setCell ⟨b, s, none⟩ x).setCell ⟨b, s + 1, none⟩ y).setCell ⟨b, s + 2, none⟩ z) b (((F.setIfInBounds s x).setIfInBounds (s + 1) y).setIfInBounds (s + 2) z) T := by
  have h1 := blk_setAt7 h s x
  have h2 := blk_setAt7 h1 (s + 1) y
  have h3 := blk_setAt7 h2 (s + 2) z
  have g : ∀ i, i < F.size → F[i]? = some F[i]! := fun i hi => by rw [getElem!_pos F i hi]; exact Array.getElem?_eq_getElem hi
  refine ⟨blk_cell h s _ (g s (by omega)), blk_thaw h _, blk_cell h1 (s + 1) _ ?_, blk_thaw h1 _, blk_cell h2 (s + 2) _ ?_, blk_thaw h2 _, h3⟩
  · rw [Array.getElem?_setIfInBounds, if_neg (by omega)]; exact g _ (by omega)
  · rw [Array.getElem?_setIfInBounds, if_neg (by omega), Array.getElem?_setIfInBounds, if_neg (by omega)]; exact g _ (by omega)
set_option maxHeartbeats 3200000 in
set_option maxRecDepth 100000 in
theorem places_any (v : Value) (l : List Int) (w : World) (hl : l.length ≤ 1000000) (hv : RI w v l) : Calls Tryz.prog 120 #[v] w (Placed l w) := by
  obtain ⟨p, cap, rfl⟩ := ri_form hv
  have hmk := make_places l.length hl
  replace hv := Lib.hid hv
  go_enter Tryz.func120, Tryz.ntmps120
  go_wp2_with fail
  go_loopg [4, 5, 6, 7, 13] l.length (fun g v4 v5 v6 v7 v13 wr => ∃ k : Nat, k ≤ l.length ∧ v13 = .int .i64 k ∧ g = l.length - k ∧ v4 = .int .i64 (rowAt l k) ∧ Blk wr w.heap.size (flatK encP 3 (partP l k)) 142 ∧ Below w.heap.size w wr)
  case atStart => exact ⟨0, Nat.zero_le _, rfl, rfl, rfl, by have := blk_new w (flatK encP 3 (Array.replicate l.length default)) 142; rwa [show Array.replicate l.length default = partP l 0 by simp [partP, placesI, placesR]] at this, below_new w _⟩
  case round =>
    obtain ⟨k, hk, rfl, rfl, rfl, hblk, hbel⟩ := hrel
    by_cases hlt : k < l.length
    · have hlt' : (k : Int) < (l.length : Int) := by omega
      obtain ⟨b, off, rfl, hb, hcell⟩ := ri_at (ri_below hv.out hbel) (by omega)
      have hc := hcell k hlt
      have hrow := rowAt_bnd l k hk
      have hsn := rowAt_succ l k hlt
      have hpn := partP_next l k hlt
      have hps := partP_size l k hk
      obtain ⟨x, hx⟩ : ∃ x, l[k] = x := ⟨_, rfl⟩
      rw [hx] at hc hsn hpn
      obtain ⟨c, hcc⟩ : ∃ c, Prp.cccI x = c := ⟨_, rfl⟩
      have hccc := fun W => ccc_any x W
      rw [hcc] at hccc hsn hpn
      obtain ⟨R, hR⟩ : ∃ R, rowAt l k = R := ⟨_, rfl⟩
      rw [hR] at hrow hsn ⊢
      obtain ⟨R1, hR1⟩ : ∃ R1, rowAt l (k + 1) = R1 := ⟨_, rfl⟩
      rw [hR1] at hsn hpn
      have hfs := flat_set (partP l k) k (by omega) (x, R1, c, k)
      rw [hpn] at hfs
      have hF : k * 3 + 2 < (flatK encP 3 (partP l k)).size := by rw [size_flatK, hps]; omega
      obtain ⟨F, hFe⟩ : ∃ F, flatK encP 3 (partP l k) = F := ⟨_, rfl⟩
      rw [hFe] at hfs hF hblk
      replace hfs := Lib.hid hfs
      replace hF := Lib.hid hF
      replace hblk := Lib.hid hblk
      replace hbel := Lib.hid hbel
      replace hccc := Lib.hid hccc
      replace hR1 := Lib.hid hR1
      clear hcell hx hcc hR hmk hpn hps hFe
      by_cases hz : c = 0
      · subst hz
        rw [if_pos rfl] at hsn
        have hsn' : R + 1 = R1 := hsn.symm
        clear hsn
        go_wp2_with (go_at_call 148; refine (hccc.out _).mono ?_; rintro e w2 ⟨rfl, hb2⟩; obtain ⟨c0, z0, c1, z1, c2, z2, hB3⟩ := store3 (blk_below hblk.out hb2) (k * 3) (.int .i64 x) (.int .i64 R1) (.int .i64 0) hF.out; replace hB3 := Lib.hid hB3; replace hb2 := Lib.hid (below_on hbel.out hb2))
        go_roundg (l.length - (k + 1))
        case measure => omega
        case rel => exact ⟨k + 1, by omega, by go_num, rfl, by rw [hR1.out], by rw [← hfs.out]; exact hB3.out, ((hb2.out.setCell (p := ⟨_, _, none⟩) (Nat.le_refl _) _).setCell (p := ⟨_, _, none⟩) (Nat.le_refl _) _).setCell (p := ⟨_, _, none⟩) (Nat.le_refl _) _⟩
      · have hzB : (c == 0) = false := beq_eq_false_iff_ne.2 hz
        rw [if_neg hz, Int.add_zero] at hsn
        subst hsn
        clear hz
        go_wp2_with (go_at_call 148; refine (hccc.out _).mono ?_; rintro e w2 ⟨rfl, hb2⟩; obtain ⟨c0, z0, c1, z1, c2, z2, hB3⟩ := store3 (blk_below hblk.out hb2) (k * 3) (.int .i64 x) (.int .i64 R1) (.int .i64 c) hF.out; replace hB3 := Lib.hid hB3; replace hb2 := Lib.hid (below_on hbel.out hb2))
        go_roundg (l.length - (k + 1))
        case measure => omega
        case rel => exact ⟨k + 1, by omega, by go_num, rfl, by rw [hR1.out], by rw [← hfs.out]; exact hB3.out, ((hb2.out.setCell (p := ⟨_, _, none⟩) (Nat.le_refl _) _).setCell (p := ⟨_, _, none⟩) (Nat.le_refl _) _).setCell (p := ⟨_, _, none⟩) (Nat.le_refl _) _⟩
    · obtain rfl : k = l.length := by omega
      have hlt' : decide ((l.length : Int) < (l.length : Int)) = false := by simp
      replace hblk := Lib.hid hblk
      replace hbel := Lib.hid hbel
      clear hmk
      go_wp2_with fail
      go_ret
      exact ⟨_, rfl, Nat.le_refl _, blk_lt hblk.out, by rw [← partP_last]; exact holds_of_blk hblk.out, hbel.out⟩
end Go.Proofs.YtiidjkhkcckmkaaGreatDoor

/- Layer 7: the code's Order and Sorted. -/
namespace Go.Proofs.YtiidjkhkcckmkaaGreatDoor
set_option linter.unusedSimpArgs false
set_option linter.unusedVariables false
open Go.Shelf Go.RowKit Go.Lib Go.Sort
open Stb
theorem adj_iff : ∀ R : List Int, Can.adjR R = true ↔ ∀ i, i + 1 < R.length → ¬ (Prp.mrkB R[i]! = true ∧ Prp.mrkB R[i + 1]! = true ∧ Prp.cccI R[i]! < Prp.cccI R[i + 1]!)
  | [] => by simp [Can.adjR]
  | [a] => by simp [Can.adjR]
  | a :: b :: t => by
    have ih := adj_iff (b :: t)
    unfold Can.adjR
    rw [Bool.and_eq_true, ih]
    constructor
    · rintro ⟨h1, h2⟩ i hi
      cases i with
      | zero =>
        intro h3
        simp at h1 h3
        rcases h1 with (h1 | h1) | h1
        · rw [h3.1] at h1; cases h1
        · rw [h3.2.1] at h1; cases h1
        · omega
      | succ i => exact h2 i (by simpa using hi)
    · intro h
      refine ⟨?_, fun i hi => h (i + 1) (by simpa using hi)⟩
      have := h 0 (by simp)
      simp at this ⊢
      cases h1 : Prp.mrkB a
      · exact Or.inl (Or.inl rfl)
      · cases h2 : Prp.mrkB b
        · exact Or.inl (Or.inr rfl)
        · exact Or.inr (this h1 h2)
theorem down_sorted (l : List Int) : downP (placesI l).toArray = Can.sortedB l := by
  have hz : (placesI l).toArray.size = l.length := by simp [placesI_len]
  have hd : ∀ i, i + 1 < l.length → (KL ((placesI l).toArray)[i + 1]! ((placesI l).toArray)[i]! ↔ (Prp.mrkB l[i + 1]! = true ∧ Prp.cccI l[i + 1]! < Prp.cccI l[i]!)) := fun i hi => by
    have e1 : ∀ k, k < l.length → ((placesI l).toArray)[k]! = (l[k]!, rowAt l (k + 1), Prp.cccI l[k]!, k) := fun k hk => by
      rw [← partP_last]
      have key : ∀ n, n ≤ l.length → k < n → (partP l n)[k]! = (l[k]!, rowAt l (k + 1), Prp.cccI l[k]!, k) := fun n => by
        induction n with
        | zero => intro _ h; omega
        | succ n ih =>
          intro hn hk2
          rw [← partP_next l n (by omega)]
          by_cases e : k = n
          · subst e
            rw [getElem!_set_same _ _ _ (by rw [partP_size l k (by omega)]; omega), getElem!_pos l k hk]
          · have := ih (by omega) (by omega)
            rw [Array.getElem!_eq_getD, Array.getD_eq_getD_getElem?, Array.getElem?_setIfInBounds, if_neg (fun h => e h.symm)]
            rw [Array.getElem!_eq_getD, Array.getD_eq_getD_getElem?] at this
            exact this
      exact key l.length (Nat.le_refl _) hk
    rw [e1 (i + 1) hi, e1 i (by omega)]
    have hr := rowAt_succ l (i + 1) hi
    have hmi := Can.mrk_iff l[i + 1]
    rw [getElem!_pos l (i + 1) hi]
    unfold KL
    dsimp only
    by_cases h0 : Prp.cccI l[i + 1] = 0
    · rw [if_pos h0] at hr
      have : ¬ Prp.mrkB l[i + 1] = true := fun h => by have := hmi.1 h; omega
      constructor
      · intro h; omega
      · intro h; exact absurd h.1 this
    · rw [if_neg h0] at hr
      have h1 := Can.mrk_no l[i + 1]
      have : Prp.mrkB l[i + 1] = true := by
        cases hm : Prp.mrkB l[i + 1]
        · exact absurd (h1.1 hm) h0
        · rfl
      constructor
      · intro h; exact ⟨this, by omega⟩
      · intro h; omega
  generalize (placesI l).toArray = E at hz hd ⊢
  rw [Bool.eq_iff_iff]
  unfold downP Can.sortedB
  rw [hz, adj_iff, List.all_eq_true]
  have hrev : ∀ i, i < l.length → l.reverse[i]! = l[l.length - 1 - i]! := fun i hi => by
    rw [getElem!_pos l.reverse i (by simpa using hi), getElem!_pos l _ (by omega), List.getElem_reverse]
  constructor
  · intro h i hi
    rw [List.length_reverse] at hi
    have h2 := h (l.length - 2 - i) (List.mem_range.2 (by omega))
    have h3 := hd (l.length - 2 - i) (by omega)
    rw [hrev i (by omega), hrev (i + 1) hi, show l.length - 1 - i = l.length - 2 - i + 1 by omega, show l.length - 1 - (i + 1) = l.length - 2 - i by omega]
    rintro ⟨a, _, c⟩
    have := h3.2 ⟨a, c⟩
    simp [this] at h2
  · intro h i hi
    have hi' := List.mem_range.1 hi
    have h2 := h (l.length - 2 - i) (by rw [List.length_reverse]; omega)
    rw [hrev _ (by omega), hrev _ (by omega), show l.length - 1 - (l.length - 2 - i) = i + 1 by omega, show l.length - 1 - (l.length - 2 - i + 1) = i by omega] at h2
    have h3 := hd i (by omega)
    by_cases hk : KL E[i + 1]! E[i]!
    · have h4 := h3.1 hk
      have : Prp.mrkB l[i]! = true := by
        cases hm : Prp.mrkB l[i]!
        · have := (Can.mrk_no l[i]!).1 hm
          have := (Can.mrk_iff l[i + 1]!).1 h4.1
          omega
        · rfl
      exact absurd ⟨h4.1, this, h4.2⟩ h2
    · simp [hk]
theorem sorted_any7 (v : Value) (l : List Int) (w : World) (hl : l.length ≤ 500000) (hv : RI w v l) : Calls Tryz.prog 80 #[v] w fun e w' => e = .returned (.bool (Can.sortedB l)) ∧ Below w.heap.size w w' := by
  have hpl := places_any _ l w (by omega) hv
  unfold Placed at hpl
  have hsd := down_sorted l
  have hE : (placesI l).toArray.size = l.length := by simp [placesI_len]
  obtain ⟨N, hN⟩ : ∃ N, l.length = N := ⟨_, rfl⟩
  obtain ⟨E, hEe⟩ : ∃ E, (placesI l).toArray = E := ⟨_, rfl⟩
  obtain ⟨B, hB⟩ : ∃ B, Can.sortedB l = B := ⟨_, rfl⟩
  rw [hEe] at hsd hE hpl
  rw [hB] at hsd ⊢
  rw [hN] at hE hpl hl
  have hsr := fun (b : Nat) (W : World) (h : HoldsK encP 3 W b 0 E) (hb : b < W.heap.size) => isSorted_any b N E W h hb (by omega)
  rw [hE, hsd] at hsr
  replace hsr := Lib.hid hsr
  replace hpl := Lib.hid hpl
  clear hv hE hEe hB hsd hN
  go_enter Tryz.func80, Tryz.ntmps80
  go_wp2_with fail
  refine hpl.out.mono ?_
  rintro e w1 ⟨b, rfl, hwb, hb, hH, hb1⟩
  replace hH := Lib.hid hH
  replace hb1 := Lib.hid hb1
  go_wp2_with fail
  refine (hsr.out b w1 hH.out hb).mono ?_
  rintro e w2 ⟨rfl, hb2⟩
  have hbel := Lib.hid (hb1.out.trans (hb2.mono hwb))
  go_wp2_with fail
  go_ret
  exact ⟨rfl, hbel.out⟩
end Go.Proofs.YtiidjkhkcckmkaaGreatDoor

/- Layer 7: the code's Marks and Compose. -/
namespace Go.Proofs.YtiidjkhkcckmkaaGreatDoor
set_option linter.unusedSimpArgs false
set_option linter.unusedVariables false
open Go.RowKit Go.Lib
namespace Can
theorem runB_next (l : List Int) (k : Nat) (h : k < l.length) (n : Nat) : runB ((l.drop k).map Prp.mrkB) n = max (if Prp.mrkB l[k] = true then n + 1 else 0) (runB ((l.drop (k + 1)).map Prp.mrkB) (if Prp.mrkB l[k] = true then n + 1 else 0)) := by
  rw [List.drop_eq_getElem_cons h, List.map_cons, runB]
end Can
theorem markOf7 (r : Int) (c : Bool) (h : Prp.mrkB r = c) (w : World) : Calls Tryz.prog 118 #[.int .i64 r] w fun e w' => e = .returned (.bool c) ∧ Below w.heap.size w w' := h ▸ mark_any r w
set_option maxHeartbeats 1600000 in
theorem marks_any7 (v : Value) (l : List Int) (w : World) (hl : l.length ≤ 500000) (hv : RI w v l) : Calls Tryz.prog 79 #[v] w fun e w' => e = .returned (.int .i64 (Can.marksI l : Nat)) ∧ Below w.heap.size w w' := by
  obtain ⟨p, cap, rfl⟩ := ri_form hv
  replace hv := Lib.hid hv
  obtain ⟨M, hM⟩ : ∃ M, Can.marksI l = M := ⟨_, rfl⟩
  rw [hM]
  unfold Can.marksI at hM
  replace hM := Lib.hid hM
  go_enter Tryz.func79, Tryz.ntmps79
  go_wp2_with fail
  go_loopg [3, 4, 6, 9] l.length (fun g va vb vx vi wr => ∃ k a b : Nat, k ≤ l.length ∧ va = .int .i64 a ∧ vb = .int .i64 b ∧ vi = .int .i64 k ∧ g = l.length - k ∧ a ≤ k ∧ b ≤ k ∧ Hid (max a (Can.runB ((l.drop k).map Prp.mrkB) b) = M) ∧ Below w.heap.size w wr)
  case atStart => exact ⟨0, 0, 0, Nat.zero_le _, rfl, rfl, rfl, rfl, Nat.le_refl _, Nat.le_refl _, Lib.hid (by rw [List.drop_zero, Nat.zero_max]; exact hM.out), Below.refl _ _⟩
  case round =>
    obtain ⟨k, a, n, hk, rfl, rfl, rfl, rfl, hak, hnk, hrun, hbel⟩ := hrel
    by_cases hlt : k < l.length
    · have hlt' : (k : Int) < (l.length : Int) := by omega
      obtain ⟨b, off, rfl, hb, hcell⟩ := ri_at (ri_below hv.out hbel) (by omega)
      have hc := hcell k hlt
      have hstep := hrun.out
      rw [Can.runB_next l k hlt n] at hstep
      obtain ⟨x, hx⟩ : ∃ x, l[k] = x := ⟨_, rfl⟩
      rw [hx] at hc hstep
      cases hmb : Prp.mrkB x with
      | true =>
        rw [hmb] at hstep
        simp only [if_true] at hstep
        have hmx := Lib.hid (markOf7 x true hmb)
        replace hstep := Lib.hid hstep
        replace hbel := Lib.hid hbel
        clear hcell hx hmb hrun
        rcases Nat.lt_or_ge (n + 1) a with hA | hA
        · have hA1 : ¬ (a : Int) ≤ (n : Int) + 1 := by omega
          have hA2 : ¬ (a : Int) < (n : Int) + 1 := by omega
          have hA3 : (n : Int) + 1 < (a : Int) := by omega
          go_wp2_with (refine (hmx.out _).mono ?_; rintro e w2 ⟨rfl, hb2⟩; replace hb2 := Lib.hid (below_on hbel.out hb2))
          all_goals
            go_roundg (l.length - (k + 1))
            case measure => omega
            case rel => exact ⟨k + 1, a, n + 1, by omega, by first | rfl | rw [Int.max_eq_left (by omega)], by go_num, by go_num, rfl, by omega, by omega, Lib.hid (by have := hstep.out; omega), hb2.out⟩
        · have hA1 : (a : Int) ≤ (n : Int) + 1 := by omega
          have hA2 : ¬ (n : Int) + 1 < (a : Int) := by omega
          go_wp2_with (refine (hmx.out _).mono ?_; rintro e w2 ⟨rfl, hb2⟩; replace hb2 := Lib.hid (below_on hbel.out hb2))
          all_goals
            go_roundg (l.length - (k + 1))
            case measure => omega
            case rel => first
              | exact ⟨k + 1, n + 1, n + 1, by omega, by first | (rw [Int.max_eq_right (by omega)]; go_num) | go_num, by go_num, by go_num, rfl, by omega, by omega, Lib.hid (by have := hstep.out; omega), hb2.out⟩
              | exact ⟨k + 1, a, n + 1, by omega, rfl, by go_num, by go_num, rfl, by omega, by omega, Lib.hid (by have := hstep.out; omega), hb2.out⟩
      | false =>
        rw [hmb] at hstep
        simp only [Bool.false_eq_true, if_false, Nat.zero_max] at hstep
        have hmx := Lib.hid (markOf7 x false hmb)
        replace hstep := Lib.hid hstep
        replace hbel := Lib.hid hbel
        clear hcell hx hmb hrun
        rcases Nat.eq_zero_or_pos a with hA | hA
        · subst hA
          go_wp2_with (refine (hmx.out _).mono ?_; rintro e w2 ⟨rfl, hb2⟩; replace hb2 := Lib.hid (below_on hbel.out hb2))
          all_goals
            go_roundg (l.length - (k + 1))
            case measure => omega
            case rel => exact ⟨k + 1, 0, 0, by omega, by first | rfl | go_num, rfl, by go_num, rfl, by omega, by omega, Lib.hid (by have := hstep.out; omega), hb2.out⟩
        · have hA1 : ¬ (a : Int) ≤ 0 := by omega
          have hA2 : (0 : Int) < (a : Int) := by omega
          have hA3 : ¬ (a : Int) < 0 := by omega
          go_wp2_with (refine (hmx.out _).mono ?_; rintro e w2 ⟨rfl, hb2⟩; replace hb2 := Lib.hid (below_on hbel.out hb2))
          all_goals
            go_roundg (l.length - (k + 1))
            case measure => omega
            case rel => exact ⟨k + 1, a, 0, by omega, by first | rfl | rw [Int.max_eq_left (by omega)], rfl, by go_num, rfl, by omega, by omega, Lib.hid (by have := hstep.out; omega), hb2.out⟩
    · obtain rfl : k = l.length := by omega
      have hlt' : decide ((l.length : Int) < (l.length : Int)) = false := by simp
      rw [List.drop_length] at hrun
      have hfin : a = M := by have := hrun.out; simpa [Can.runB] using this
      subst hfin
      replace hrun := Lib.hid hrun
      replace hbel := Lib.hid hbel
      go_wp2_with fail
      go_ret
      exact ⟨rfl, hbel.out⟩
def Head (m : List Int) (H last : Int) : Prop :=
  ((H = -1 ∧ ∀ j (h : j < m.length), Prp.mrkB m[j] = true) ∨ ∃ k : Nat, ∃ hk : k < m.length, H = k ∧ Prp.mrkB m[k] = false ∧ ∀ j (h : j < m.length), k < j → Prp.mrkB m[j] = true) ∧ ∀ L, (hL : m.length = L + 1) → Prp.mrkB (m[L]'(by omega)) = true → last = Prp.cccI (m[L]'(by omega))
theorem head_mark {m : List Int} {H last : Int} (h : Head m H last) {x c : Int} (hx : Prp.mrkB x = true) (hc : Prp.cccI x = c) : Head (m ++ [x]) H c := by
  refine ⟨?_, fun L hL _ => ?_⟩
  · rcases h.1 with ⟨h1, h2⟩ | ⟨k, hk, h1, h2, h3⟩
    · refine .inl ⟨h1, fun j hj => ?_⟩
      rw [List.length_append, List.length_singleton] at hj
      by_cases e : j < m.length
      · rw [List.getElem_append_left e]; exact h2 j e
      · obtain rfl : j = m.length := by omega
        simpa using hx
    · refine .inr ⟨k, by simp; omega, h1, by rw [List.getElem_append_left hk]; exact h2, fun j hj hkj => ?_⟩
      rw [List.length_append, List.length_singleton] at hj
      by_cases e : j < m.length
      · rw [List.getElem_append_left e]; exact h3 j e hkj
      · obtain rfl : j = m.length := by omega
        simpa using hx
  · rw [List.length_append, List.length_singleton] at hL
    obtain rfl : L = m.length := by omega
    simpa using hc.symm
theorem head_new (m : List Int) {x last : Int} (hx : Prp.mrkB x = false) : Head (m ++ [x]) (m.length : Int) last := by
  refine ⟨.inr ⟨m.length, by simp, rfl, by simpa using hx, fun j hj hkj => ?_⟩, fun L hL h => ?_⟩
  · rw [List.length_append, List.length_singleton] at hj; omega
  · rw [List.length_append, List.length_singleton] at hL
    obtain rfl : L = m.length := by omega
    simp [hx] at h
theorem head_put {m : List Int} {last : Int} {k : Nat} (hk : k < m.length) (h : Head m (k : Int) last) {v : Int} (hv : Prp.mrkB v = false) : Head (m.set k v) (k : Int) last := by
  obtain ⟨h1, h4⟩ := h
  rcases h1 with ⟨h1, _⟩ | ⟨k', hk', h1, h2, h3⟩
  · omega
  · obtain rfl : k = k' := by omega
    refine ⟨.inr ⟨k, by simpa using hk, rfl, by simpa using hv, fun j hj hkj => ?_⟩, fun L hL h => ?_⟩
    · rw [List.length_set] at hj
      rw [List.getElem_set_ne (by omega)]
      exact h3 j hj hkj
    · rw [List.length_set] at hL
      by_cases e : k = L
      · subst e
        rw [List.getElem_set_self] at h
        rw [hv] at h
        cases h
      · rw [List.getElem_set_ne e] at h ⊢
        exact h4 L hL h
end Go.Proofs.YtiidjkhkcckmkaaGreatDoor

/- Layer 7: the code's Compose. -/
namespace Go.Proofs.YtiidjkhkcckmkaaGreatDoor
set_option linter.unusedSimpArgs false
set_option linter.unusedVariables false
open Go.RowKit Go.Lib
theorem make_empty (n : Nat) (hn : n ≤ 1000000) : ∃ X : Array Value, X.size = n ∧ ∀ W : World, (Instr.makeSlice 24 (.int .i64 0) (.int .i64 (n : Int))).run Tryz.prog W = .ok (.slice (some ⟨W.heap.size, 0, none⟩) 0 n) (W.alloc (.cells X 3)) := by
  obtain ⟨i0, hi, h⟩ := Option.map_eq_some_iff.1 info_i
  simp only [Prod.mk.injEq] at h
  refine ⟨madeCells (Value.int .i64 0).cells (n * i0.size), by rw [size_madeCells, h.2.1]; omega, fun W => ?_⟩
  have hr := run_make (P := Tryz.prog) W 24 3 i0 (.int .i64 0) Tryz.underlying24 hi h.1 .i64 .i64 0 (n : Int) (by omega) (by omega) (by rw [h.2.2]; omega) (by omega)
  rw [Int.toNat_natCast] at hr
  exact hr
theorem own_empty (w : World) (X : Array Value) (n : Nat) (hX : X.size = n) (hn : n ≤ maxLen) : OwnI w.heap.size (.slice (some ⟨w.heap.size, 0, none⟩) 0 n) [] (w.alloc (.cells X 3)) := by
  refine ⟨by simp, .inr ⟨w.heap.size, n, X, rfl, Nat.le_refl _, heap_alloc_new w _, by simp, hn, by rw [hX, Nat.mul_one], ?_⟩⟩
  simp
theorem cccOf7 (r : Int) (c : Int) (h : Prp.cccI r = c) (w : World) : Calls Tryz.prog 148 #[.int .i64 r] w fun e w' => e = .returned (.int .i64 c) ∧ Below w.heap.size w w' := h ▸ ccc_any r w
set_option maxHeartbeats 6400000 in
set_option maxRecDepth 100000 in
theorem compose_own7 (hJ : JoinYes) (hN : JoinNot) (v : Value) (l : List Int) (w : World) (hl : l.length ≤ 500000) (hv : RI w v l) : Calls Tryz.prog 115 #[v] w (Makes (Can.composeI l) w) := by
  obtain ⟨i0, hi, hz0, hz1, hz2⟩ := info_parts info_i
  obtain ⟨p, cap, rfl⟩ := ri_form hv
  obtain ⟨X, hX, hmk⟩ := make_empty l.length (by omega)
  replace hv := Lib.hid hv
  replace hX := Lib.hid hX
  replace hJ := Lib.hid hJ
  replace hN := Lib.hid hN
  go_enter Tryz.func115, Tryz.ntmps115
  go_wp2_with fail
  go_loopg [3, 4, 5, 7, 8, 9, 10, 16] l.length (fun g vt vh vl v7 v8 v9 v10 vi wr => ∃ (k : Nat) (H last : Int), k ≤ l.length ∧ vi = .int .i64 k ∧ vh = .int .i64 H ∧ vl = .int .i64 last ∧ g = l.length - k ∧ OwnI w.heap.size vt (Can.composeI (l.take k)) wr ∧ Below w.heap.size w wr ∧ Head (Can.composeI (l.take k)) H last)
  case atStart => exact ⟨0, -1, 0, Nat.zero_le _, rfl, rfl, rfl, rfl, own_empty w X l.length hX.out (by unfold maxLen; omega), below_new w _, ⟨.inl ⟨rfl, fun j h => by cases h⟩, fun L h => by cases h⟩⟩
  case round =>
    obtain ⟨k, H, last, hk, rfl, rfl, rfl, rfl, hown, hbel, hh⟩ := hrel
    by_cases hlt : k < l.length
    · have hlt' : (k : Int) < (l.length : Int) := by omega
      obtain ⟨b, off, rfl, hb, hcell⟩ := ri_at (ri_below hv.out hbel) (by omega)
      have hc := hcell k hlt
      obtain ⟨x, hx⟩ : ∃ x, l[k] = x := ⟨_, rfl⟩
      have hsn : l.take (k + 1) = l.take k ++ [x] := by rw [List.take_succ_eq_append_getElem hlt, hx]
      rw [hx] at hc
      have hstep := Can.compose_snoc (l.take k) x
      rw [← hsn] at hstep
      have hlen := Can.compose_le (l.take k)
      rw [List.length_take] at hlen
      obtain ⟨m, hm⟩ : ∃ m, Can.composeI (l.take k) = m := ⟨_, rfl⟩
      rw [hm] at hown hstep hlen hh
      have hml : m.length ≤ 1000000 := by omega
      obtain ⟨c, hc0⟩ : ∃ c, Prp.cccI x = c := ⟨_, rfl⟩
      have hccc := Lib.hid (fun W => cccOf7 x c hc0 W)
      obtain ⟨pt, ct, rfl⟩ := ri_form (ri_of_own hown)
      replace hc0 := Lib.hid hc0
      replace hstep := Lib.hid hstep
      replace hown := Lib.hid hown
      replace hbel := Lib.hid hbel
      replace hh := Lib.hid hh
      clear hcell hsn hx hm hlen hmk
      go_wp2_with fail
      refine (hccc.out _).mono ?_
      rintro e w2 ⟨rfl, hb2⟩
      have hc2 : w2.cell? ⟨b, off + k, none⟩ = some (.int .i64 x) := (hb2.cell hb).trans hc
      have o2 := Lib.hid (ownI_below hown.out hb2)
      have b2 := Lib.hid (below_on hbel.out hb2)
      clear hccc hown hbel hb2 hc
      have hd := hh.out
      obtain ⟨hd1, hd2⟩ := hd
      rcases hd1 with ⟨rfl, hall⟩ | ⟨j, hj, rfl, hmj, hafter⟩
      · have hst : Hid (Can.composeI (l.take (k + 1)) = m ++ [x]) := Lib.hid (by rw [hstep.out, Can.cstep_marks m x hall]; simp)
        clear hall hd2 hstep
        by_cases hmk : Prp.mrkB x = true
        · have o3 := Lib.hid (ownI_alloc o2.out (.cells #[.int .i64 x] 3))
          have b3 := Lib.hid (b2.out.alloc b2.out.size (.cells #[.int .i64 x] 3))
          have s3 := Lib.hid (ri_src (ri_of_own (ownI_lit w.heap.size w2 [x] #[.int .i64 x] w2.heap.size 1 rfl b2.out.size rfl rfl (by unfold maxLen; omega))))
          have hz : (c == 0) = false := beq_eq_false_iff_ne.2 (by have := (Can.mrk_iff x).1 hmk; have := hc0.out; omega)
          have hh2 := Lib.hid (head_mark (c := c) hh.out hmk hc0.out)
          clear hmk
          go_wp2_with (at_builtin; refine wpList_append_src rfl _ _ 24 rfl w.heap.size 3 i0 (.int .i64 0) 8 Tryz.underlying24 hi hz0 hz1 hz2 rfl _ _ _ rfl o3.out _ _ rfl s3.out (oneCellI _) (by simp only [List.length_map, List.length_append, List.length_take, List.length_drop, List.length_cons, List.length_nil, List.length_singleton]; unfold maxLen; omega) (by simp only [List.length_map, List.length_append, List.length_take, List.length_drop, List.length_cons, List.length_nil, List.length_singleton]; omega) b3.out.size ?_; intro v5 w5 ho5 hg5; have o5 := Lib.hid (ownI_of_row (l := m ++ [x]) ho5 (by (try simp); try omega) (by (try simp); try omega)); have b5 := Lib.hid (below_row b3.out hg5 b3.out.size o3.out (Nat.le_refl _)); clear ho5 hg5)
          go_roundg (l.length - (k + 1))
          case measure => omega
          case rel => exact ⟨k + 1, _, _, by omega, by go_num, rfl, rfl, rfl, by rw [hst.out]; exact o5.out, b5.out, by rw [hst.out]; exact hh2.out⟩
        · have o3 := Lib.hid (ownI_alloc o2.out (.cells #[.int .i64 x] 3))
          have b3 := Lib.hid (b2.out.alloc b2.out.size (.cells #[.int .i64 x] 3))
          have s3 := Lib.hid (ri_src (ri_of_own (ownI_lit w.heap.size w2 [x] #[.int .i64 x] w2.heap.size 1 rfl b2.out.size rfl rfl (by unfold maxLen; omega))))
          have hz : (c == 0) = true := beq_iff_eq.2 (by have := (Can.mrk_no x).1 (by simpa using hmk); have := hc0.out; omega)
          have hh2 := Lib.hid (head_new m (x := x) (last := c) (by simpa using hmk))
          clear hmk
          go_wp2_with (at_builtin; refine wpList_append_src rfl _ _ 24 rfl w.heap.size 3 i0 (.int .i64 0) 8 Tryz.underlying24 hi hz0 hz1 hz2 rfl _ _ _ rfl o3.out _ _ rfl s3.out (oneCellI _) (by simp only [List.length_map, List.length_append, List.length_take, List.length_drop, List.length_cons, List.length_nil, List.length_singleton]; unfold maxLen; omega) (by simp only [List.length_map, List.length_append, List.length_take, List.length_drop, List.length_cons, List.length_nil, List.length_singleton]; omega) b3.out.size ?_; intro v5 w5 ho5 hg5; have o5 := Lib.hid (ownI_of_row (l := m ++ [x]) ho5 (by (try simp); try omega) (by (try simp); try omega)); have b5 := Lib.hid (below_row b3.out hg5 b3.out.size o3.out (Nat.le_refl _)); clear ho5 hg5)
          go_roundg (l.length - (k + 1))
          case measure => omega
          case rel => exact ⟨k + 1, _, _, by omega, by go_num, rfl, rfl, rfl, by rw [hst.out]; exact o5.out, b5.out, by rw [hst.out]; exact hh2.out⟩
      · obtain ⟨L, hL⟩ : ∃ L, m.length = L + 1 := ⟨m.length - 1, by omega⟩
        by_cases hgo : j = L ∨ last < c
        · have hnb : ¬ (Prp.mrkB (m[L]'(by omega)) = true ∧ Prp.cccI x ≤ Prp.cccI (m[L]'(by omega))) := by
            rintro ⟨h1, h2⟩
            rcases hgo with rfl | hgo
            · rw [hmj] at h1; cases h1
            · have := hd2 L hL h1; rw [hc0.out] at h2; omega
          have hcs := Can.cstep_head m L hL x j hj hmj hafter hnb
          obtain ⟨g0, cp, hvt, hB, hg0, hcell2⟩ := ownI_open o2.out (by omega)
          have hcj := hcell2 j hj
          obtain ⟨y, hy⟩ : ∃ y, m[j] = y := ⟨_, rfl⟩
          rw [hy] at hcs hcj
          have hj1 : (j : Int) < (m.length : Int) := by omega
          have hjB : ((j : Int) == (m.length : Int) - 1) = decide (j = L) := by
            by_cases e : j = L
            · rw [decide_eq_true e]; exact beq_iff_eq.2 (by omega)
            · rw [decide_eq_false e]; exact beq_eq_false_iff_ne.2 (by omega)
          simp only [Value.slice.injEq] at hvt
          obtain ⟨rfl, _, rfl⟩ := hvt
          clear hnb hd2 hcell2 hafter hmj hy
          by_cases hjL : j = L
          · rw [decide_eq_true hjL] at hjB
            clear hgo hjL hL
            cases hjn : Par.joinI y x with
            | some u =>
              rw [hjn] at hcs
              have hst : Hid (Can.composeI (l.take (k + 1)) = m.set j u) := Lib.hid (by rw [hstep.out, hcs, List.reverse_reverse])
              have hmu := Lib.hid (Can.join_facts hjn).1
              have hcall := Lib.hid (fun W => hJ.out y x u hjn W)
              clear hcs hjn hstep
              go_wp2_with (go_at_call 149; refine (hcall.out _).mono ?_; rintro e w3 ⟨rfl, hb3⟩; have o3 := ownI_below o2.out hb3; have hcj3 := (hb3.cell hg0).trans hcj; have hfr := World.ownsRow.frozenAt o3 j; have o4 := Lib.hid (ownI_store o3 rfl j u); have b4 := Lib.hid ((below_on b2.out hb3).setCell (p := ⟨g0, j, none⟩) hB (.int .i64 u)); replace o3 := Lib.hid o3; replace hb3 := Lib.hid hb3; clear hcj)
              go_roundg (l.length - (k + 1))
              case measure => omega
              case rel => exact ⟨k + 1, _, _, by omega, by go_num, rfl, rfl, rfl, by rw [hst.out]; exact o4.out, b4.out, by rw [hst.out]; exact head_put hj hh.out hmu.out⟩
            | none =>
              rw [hjn] at hcs
              have hst : Hid (Can.composeI (l.take (k + 1)) = m ++ [x]) := Lib.hid (by rw [hstep.out, hcs]; simp)
              have hcall := Lib.hid (fun W => hN.out y x hjn W)
              clear hcs hjn hstep
              go_upto_region 12 with (go_at_call 149; refine (hcall.out _).mono ?_; rintro e w3 ⟨rfl, hb3⟩; replace o2 := Lib.hid (ownI_below o2.out hb3); replace b2 := Lib.hid (below_on b2.out hb3); clear hcj)
              by_cases hmk : Prp.mrkB x = true
              · have o3 := Lib.hid (ownI_alloc o2.out (.cells #[.int .i64 x] 3))
                have b3 := Lib.hid (b2.out.alloc b2.out.size (.cells #[.int .i64 x] 3))
                have s3 := Lib.hid (ri_src (ri_of_own (ownI_lit w.heap.size w3 [x] #[.int .i64 x] w3.heap.size 1 rfl b2.out.size rfl rfl (by unfold maxLen; omega))))
                have hz : (c == 0) = false := beq_eq_false_iff_ne.2 (by have := (Can.mrk_iff x).1 hmk; have := hc0.out; omega)
                have hh2 := Lib.hid (head_mark (c := c) hh.out hmk hc0.out)
                clear hmk
                go_wp2_with (at_builtin; refine wpList_append_src rfl _ _ 24 rfl w.heap.size 3 i0 (.int .i64 0) 8 Tryz.underlying24 hi hz0 hz1 hz2 rfl _ _ _ rfl o3.out _ _ rfl s3.out (oneCellI _) (by simp only [List.length_map, List.length_append, List.length_take, List.length_drop, List.length_cons, List.length_nil, List.length_singleton]; unfold maxLen; omega) (by simp only [List.length_map, List.length_append, List.length_take, List.length_drop, List.length_cons, List.length_nil, List.length_singleton]; omega) b3.out.size ?_; intro v5 w5 ho5 hg5; have o5 := Lib.hid (ownI_of_row (l := m ++ [x]) ho5 (by (try simp); try omega) (by (try simp); try omega)); have b5 := Lib.hid (below_row b3.out hg5 b3.out.size o3.out (Nat.le_refl _)); clear ho5 hg5)
                go_roundg (l.length - (k + 1))
                case measure => omega
                case rel => exact ⟨k + 1, _, _, by omega, by go_num, rfl, rfl, rfl, by rw [hst.out]; exact o5.out, b5.out, by rw [hst.out]; exact hh2.out⟩
              · have o3 := Lib.hid (ownI_alloc o2.out (.cells #[.int .i64 x] 3))
                have b3 := Lib.hid (b2.out.alloc b2.out.size (.cells #[.int .i64 x] 3))
                have s3 := Lib.hid (ri_src (ri_of_own (ownI_lit w.heap.size w3 [x] #[.int .i64 x] w3.heap.size 1 rfl b2.out.size rfl rfl (by unfold maxLen; omega))))
                have hz : (c == 0) = true := beq_iff_eq.2 (by have := (Can.mrk_no x).1 (by simpa using hmk); have := hc0.out; omega)
                have hh2 := Lib.hid (head_new m (x := x) (last := c) (by simpa using hmk))
                clear hmk
                go_wp2_with (at_builtin; refine wpList_append_src rfl _ _ 24 rfl w.heap.size 3 i0 (.int .i64 0) 8 Tryz.underlying24 hi hz0 hz1 hz2 rfl _ _ _ rfl o3.out _ _ rfl s3.out (oneCellI _) (by simp only [List.length_map, List.length_append, List.length_take, List.length_drop, List.length_cons, List.length_nil, List.length_singleton]; unfold maxLen; omega) (by simp only [List.length_map, List.length_append, List.length_take, List.length_drop, List.length_cons, List.length_nil, List.length_singleton]; omega) b3.out.size ?_; intro v5 w5 ho5 hg5; have o5 := Lib.hid (ownI_of_row (l := m ++ [x]) ho5 (by (try simp); try omega) (by (try simp); try omega)); have b5 := Lib.hid (below_row b3.out hg5 b3.out.size o3.out (Nat.le_refl _)); clear ho5 hg5)
                go_roundg (l.length - (k + 1))
                case measure => omega
                case rel => exact ⟨k + 1, _, _, by omega, by go_num, rfl, rfl, rfl, by rw [hst.out]; exact o5.out, b5.out, by rw [hst.out]; exact hh2.out⟩
          · rw [decide_eq_false hjL] at hjB
            have hlc : last < c := by rcases hgo with h | h; exact absurd h hjL; exact h
            clear hgo hjL hL
            cases hjn : Par.joinI y x with
            | some u =>
              rw [hjn] at hcs
              have hst : Hid (Can.composeI (l.take (k + 1)) = m.set j u) := Lib.hid (by rw [hstep.out, hcs, List.reverse_reverse])
              have hmu := Lib.hid (Can.join_facts hjn).1
              have hcall := Lib.hid (fun W => hJ.out y x u hjn W)
              clear hcs hjn hstep
              go_wp2_with (go_at_call 149; refine (hcall.out _).mono ?_; rintro e w3 ⟨rfl, hb3⟩; have o3 := ownI_below o2.out hb3; have hcj3 := (hb3.cell hg0).trans hcj; have hfr := World.ownsRow.frozenAt o3 j; have o4 := Lib.hid (ownI_store o3 rfl j u); have b4 := Lib.hid ((below_on b2.out hb3).setCell (p := ⟨g0, j, none⟩) hB (.int .i64 u)); replace o3 := Lib.hid o3; replace hb3 := Lib.hid hb3; clear hcj)
              go_roundg (l.length - (k + 1))
              case measure => omega
              case rel => exact ⟨k + 1, _, _, by omega, by go_num, rfl, rfl, rfl, by rw [hst.out]; exact o4.out, b4.out, by rw [hst.out]; exact head_put hj hh.out hmu.out⟩
            | none =>
              rw [hjn] at hcs
              have hst : Hid (Can.composeI (l.take (k + 1)) = m ++ [x]) := Lib.hid (by rw [hstep.out, hcs]; simp)
              have hcall := Lib.hid (fun W => hN.out y x hjn W)
              clear hcs hjn hstep
              go_upto_region 12 with (go_at_call 149; refine (hcall.out _).mono ?_; rintro e w3 ⟨rfl, hb3⟩; replace o2 := Lib.hid (ownI_below o2.out hb3); replace b2 := Lib.hid (below_on b2.out hb3); clear hcj)
              by_cases hmk : Prp.mrkB x = true
              · have o3 := Lib.hid (ownI_alloc o2.out (.cells #[.int .i64 x] 3))
                have b3 := Lib.hid (b2.out.alloc b2.out.size (.cells #[.int .i64 x] 3))
                have s3 := Lib.hid (ri_src (ri_of_own (ownI_lit w.heap.size w3 [x] #[.int .i64 x] w3.heap.size 1 rfl b2.out.size rfl rfl (by unfold maxLen; omega))))
                have hz : (c == 0) = false := beq_eq_false_iff_ne.2 (by have := (Can.mrk_iff x).1 hmk; have := hc0.out; omega)
                have hh2 := Lib.hid (head_mark (c := c) hh.out hmk hc0.out)
                clear hmk
                go_wp2_with (at_builtin; refine wpList_append_src rfl _ _ 24 rfl w.heap.size 3 i0 (.int .i64 0) 8 Tryz.underlying24 hi hz0 hz1 hz2 rfl _ _ _ rfl o3.out _ _ rfl s3.out (oneCellI _) (by simp only [List.length_map, List.length_append, List.length_take, List.length_drop, List.length_cons, List.length_nil, List.length_singleton]; unfold maxLen; omega) (by simp only [List.length_map, List.length_append, List.length_take, List.length_drop, List.length_cons, List.length_nil, List.length_singleton]; omega) b3.out.size ?_; intro v5 w5 ho5 hg5; have o5 := Lib.hid (ownI_of_row (l := m ++ [x]) ho5 (by (try simp); try omega) (by (try simp); try omega)); have b5 := Lib.hid (below_row b3.out hg5 b3.out.size o3.out (Nat.le_refl _)); clear ho5 hg5)
                go_roundg (l.length - (k + 1))
                case measure => omega
                case rel => exact ⟨k + 1, _, _, by omega, by go_num, rfl, rfl, rfl, by rw [hst.out]; exact o5.out, b5.out, by rw [hst.out]; exact hh2.out⟩
              · have o3 := Lib.hid (ownI_alloc o2.out (.cells #[.int .i64 x] 3))
                have b3 := Lib.hid (b2.out.alloc b2.out.size (.cells #[.int .i64 x] 3))
                have s3 := Lib.hid (ri_src (ri_of_own (ownI_lit w.heap.size w3 [x] #[.int .i64 x] w3.heap.size 1 rfl b2.out.size rfl rfl (by unfold maxLen; omega))))
                have hz : (c == 0) = true := beq_iff_eq.2 (by have := (Can.mrk_no x).1 (by simpa using hmk); have := hc0.out; omega)
                have hh2 := Lib.hid (head_new m (x := x) (last := c) (by simpa using hmk))
                clear hmk
                go_wp2_with (at_builtin; refine wpList_append_src rfl _ _ 24 rfl w.heap.size 3 i0 (.int .i64 0) 8 Tryz.underlying24 hi hz0 hz1 hz2 rfl _ _ _ rfl o3.out _ _ rfl s3.out (oneCellI _) (by simp only [List.length_map, List.length_append, List.length_take, List.length_drop, List.length_cons, List.length_nil, List.length_singleton]; unfold maxLen; omega) (by simp only [List.length_map, List.length_append, List.length_take, List.length_drop, List.length_cons, List.length_nil, List.length_singleton]; omega) b3.out.size ?_; intro v5 w5 ho5 hg5; have o5 := Lib.hid (ownI_of_row (l := m ++ [x]) ho5 (by (try simp); try omega) (by (try simp); try omega)); have b5 := Lib.hid (below_row b3.out hg5 b3.out.size o3.out (Nat.le_refl _)); clear ho5 hg5)
                go_roundg (l.length - (k + 1))
                case measure => omega
                case rel => exact ⟨k + 1, _, _, by omega, by go_num, rfl, rfl, rfl, by rw [hst.out]; exact o5.out, b5.out, by rw [hst.out]; exact hh2.out⟩
        · have hjL : j ≠ L := fun h => hgo (.inl h)
          have hlc : ¬ last < c := fun h => hgo (.inr h)
          have hmL := hafter L (by omega) (by omega)
          have hst : Hid (Can.composeI (l.take (k + 1)) = m ++ [x]) := Lib.hid (by rw [hstep.out, Can.cstep_block m L hL x hmL (by rw [hc0.out]; have := hd2 L hL hmL; omega)]; simp)
          have hjB : ((j : Int) == (m.length : Int) - 1) = false := beq_eq_false_iff_ne.2 (by omega)
          clear hgo hjL hd2 hafter hmj hmL hL hstep
          by_cases hmk : Prp.mrkB x = true
          · have o3 := Lib.hid (ownI_alloc o2.out (.cells #[.int .i64 x] 3))
            have b3 := Lib.hid (b2.out.alloc b2.out.size (.cells #[.int .i64 x] 3))
            have s3 := Lib.hid (ri_src (ri_of_own (ownI_lit w.heap.size w2 [x] #[.int .i64 x] w2.heap.size 1 rfl b2.out.size rfl rfl (by unfold maxLen; omega))))
            have hz : (c == 0) = false := beq_eq_false_iff_ne.2 (by have := (Can.mrk_iff x).1 hmk; have := hc0.out; omega)
            have hh2 := Lib.hid (head_mark (c := c) hh.out hmk hc0.out)
            clear hmk
            go_wp2_with (at_builtin; refine wpList_append_src rfl _ _ 24 rfl w.heap.size 3 i0 (.int .i64 0) 8 Tryz.underlying24 hi hz0 hz1 hz2 rfl _ _ _ rfl o3.out _ _ rfl s3.out (oneCellI _) (by simp only [List.length_map, List.length_append, List.length_take, List.length_drop, List.length_cons, List.length_nil, List.length_singleton]; unfold maxLen; omega) (by simp only [List.length_map, List.length_append, List.length_take, List.length_drop, List.length_cons, List.length_nil, List.length_singleton]; omega) b3.out.size ?_; intro v5 w5 ho5 hg5; have o5 := Lib.hid (ownI_of_row (l := m ++ [x]) ho5 (by (try simp); try omega) (by (try simp); try omega)); have b5 := Lib.hid (below_row b3.out hg5 b3.out.size o3.out (Nat.le_refl _)); clear ho5 hg5)
            go_roundg (l.length - (k + 1))
            case measure => omega
            case rel => exact ⟨k + 1, _, _, by omega, by go_num, rfl, rfl, rfl, by rw [hst.out]; exact o5.out, b5.out, by rw [hst.out]; exact hh2.out⟩
          · have o3 := Lib.hid (ownI_alloc o2.out (.cells #[.int .i64 x] 3))
            have b3 := Lib.hid (b2.out.alloc b2.out.size (.cells #[.int .i64 x] 3))
            have s3 := Lib.hid (ri_src (ri_of_own (ownI_lit w.heap.size w2 [x] #[.int .i64 x] w2.heap.size 1 rfl b2.out.size rfl rfl (by unfold maxLen; omega))))
            have hz : (c == 0) = true := beq_iff_eq.2 (by have := (Can.mrk_no x).1 (by simpa using hmk); have := hc0.out; omega)
            have hh2 := Lib.hid (head_new m (x := x) (last := c) (by simpa using hmk))
            clear hmk
            go_wp2_with (at_builtin; refine wpList_append_src rfl _ _ 24 rfl w.heap.size 3 i0 (.int .i64 0) 8 Tryz.underlying24 hi hz0 hz1 hz2 rfl _ _ _ rfl o3.out _ _ rfl s3.out (oneCellI _) (by simp only [List.length_map, List.length_append, List.length_take, List.length_drop, List.length_cons, List.length_nil, List.length_singleton]; unfold maxLen; omega) (by simp only [List.length_map, List.length_append, List.length_take, List.length_drop, List.length_cons, List.length_nil, List.length_singleton]; omega) b3.out.size ?_; intro v5 w5 ho5 hg5; have o5 := Lib.hid (ownI_of_row (l := m ++ [x]) ho5 (by (try simp); try omega) (by (try simp); try omega)); have b5 := Lib.hid (below_row b3.out hg5 b3.out.size o3.out (Nat.le_refl _)); clear ho5 hg5)
            go_roundg (l.length - (k + 1))
            case measure => omega
            case rel => exact ⟨k + 1, _, _, by omega, by go_num, rfl, rfl, rfl, by rw [hst.out]; exact o5.out, b5.out, by rw [hst.out]; exact hh2.out⟩
    · obtain rfl : k = l.length := by omega
      have hlt' : decide ((l.length : Int) < (l.length : Int)) = false := by simp
      rw [List.take_length] at hown
      replace hown := Lib.hid hown
      replace hbel := Lib.hid hbel
      replace hh := Lib.hid hh
      clear hmk
      go_wp2_with fail
      go_ret
      exact ⟨_, rfl, hown.out, hbel.out⟩
theorem compose_any7 (hJ : JoinYes) (hN : JoinNot) (v : Value) (l : List Int) (w : World) (hl : l.length ≤ 500000) (hv : RI w v l) : Calls Tryz.prog 115 #[v] w (Told (Can.composeI l) w) := (compose_own7 hJ hN v l w hl hv).mono fun _ _ => told_of_makes
end Go.Proofs.YtiidjkhkcckmkaaGreatDoor

