/- Layer 12: the code's copied, End. -/
import Derived.Test.YtconccgfhdmafaaSgA1
import Derived.Test.YtconccgfhdmafaaShelf
import Derived.Test.YtconccgfhdmafaaBasP
import Derived.OrdersHeld
import Derived.Deep.RegionHeld
import Derived.Deep.DeepCutAuto
namespace Go.Proofs.Ytconccgfhdmafaa
set_option linter.unusedSimpArgs false
set_option linter.unusedVariables false
open Go.RowKit Go.Lib

/-- a block of five cells is written whole -/
abbrev put5 (w : World) (k : Nat) (x0 x1 x2 x3 x4 : Value) : World := ((((w.setCell ⟨k, 0, none⟩ x0).setCell ⟨k, 1, none⟩ x1).setCell ⟨k, 2, none⟩ x2).setCell ⟨k, 3, none⟩ x3).setCell ⟨k, 4, none⟩ x4
theorem blk_put5 {w : World} {k : Nat} {a b c d e : Value} {T : TypeId} (h : Blk w k #[a, b, c, d, e] T) (x0 x1 x2 x3 x4 : Value) : Blk (put5 w k x0 x1 x2 x3 x4) k #[x0, x1, x2, x3, x4] T :=
  blk_setAt (blk_setAt (blk_setAt (blk_setAt (blk_setAt h 0 x0) 1 x1) 2 x2) 3 x3) 4 x4
theorem blk_else5 {w : World} {k j : Nat} {cs : Array Value} {T : TypeId} (h : Blk w k cs T) (x0 x1 x2 x3 x4 : Value) (hne : j ≠ k) : Blk (put5 w j x0 x1 x2 x3 x4) k cs T := by
  unfold Blk at h ⊢
  rw [heap_setCell_other _ _ _ _ (Ne.symm hne), heap_setCell_other _ _ _ _ (Ne.symm hne), heap_setCell_other _ _ _ _ (Ne.symm hne), heap_setCell_other _ _ _ _ (Ne.symm hne), heap_setCell_other _ _ _ _ (Ne.symm hne)]
  exact h
theorem below_put5 {n k : Nat} {w w1 : World} (h : Below n w w1) (hk : n ≤ k) (x0 x1 x2 x3 x4 : Value) : Below n w (put5 w1 k x0 x1 x2 x3 x4) :=
  ((((h.setCell (p := ⟨k, 0, none⟩) hk x0).setCell (p := ⟨k, 1, none⟩) hk x1).setCell (p := ⟨k, 2, none⟩) hk x2).setCell (p := ⟨k, 3, none⟩) hk x3).setCell (p := ⟨k, 4, none⟩) hk x4
theorem own_put5 {B k : Nat} {v : Value} {l : List Int} {w : World} (h : OwnI B v l w) (hne : v.ownBlock = none ∨ v.ownBlock ≠ some k) (x0 x1 x2 x3 x4 : Value) : OwnI B v l (put5 w k x0 x1 x2 x3 x4) :=
  ownI_set (ownI_set (ownI_set (ownI_set (ownI_set h _ _ hne) _ _ hne) _ _ hne) _ _ hne) _ _ hne

theorem held5_12 {w : World} {k : Nat} {a b c d e : Value} {T : TypeId} (h : Blk w k #[a, b, c, d, e] T) : w.cell? ⟨k, 0, none⟩ = some a ∧ w.cell? ⟨k, 1, none⟩ = some b ∧ w.cell? ⟨k, 2, none⟩ = some c ∧ w.cell? ⟨k, 3, none⟩ = some d ∧ w.cell? ⟨k, 4, none⟩ = some e :=
  ⟨blk_cell h 0 _ rfl, blk_cell h 1 _ rfl, blk_cell h 2 _ rfl, blk_cell h 3 _ rfl, blk_cell h 4 _ rfl⟩


/-- a state that may be -/
def wellS (l : List Int) (s : Clu.CS) : List Int × Clu.CS := if Sgm.saneB l s = true then (l, s) else ([], Clu.zero)
theorem well_sane (l : List Int) (s : Clu.CS) : Sgm.saneB (wellS l s).1 (wellS l s).2 = true := by
  unfold wellS
  split
  · assumption
  · decide
theorem well_feed (l : List Int) (s : Clu.CS) (r : Int) : Sgm.feedI l s r = Sgm.stepI (wellS l s).1 (wellS l s).2 r := by
  unfold Sgm.feedI wellS
  split <;> rfl
theorem well_end12 (l : List Int) (s : Clu.CS) : Sgm.endI l s = (wellS l s).1 := by
  unfold Sgm.endI wellS
  split <;> rfl



end Go.Proofs.Ytconccgfhdmafaa
