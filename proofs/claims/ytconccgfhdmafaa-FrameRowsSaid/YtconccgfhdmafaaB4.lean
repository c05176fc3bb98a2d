/- A block of four cells written whole. -/
import Derived.Test.YtconccgfhdmafaaBasP
namespace Go.Proofs.Ytconccgfhdmafaa
set_option linter.unusedSimpArgs false
set_option linter.unusedVariables false
open Go.RowKit Go.Lib

theorem blk_setAt {w : World} {k : Nat} {cs : Array Value} {T : TypeId} (h : Blk w k cs T) (i : Nat) (u : Value) : Blk (w.setCell ⟨k, i, none⟩ u) k (cs.setIfInBounds i u) T := by
  have := heap_setCell_same w k i cs T u h
  unfold Blk
  simpa using this
theorem blk_otherAt {w : World} {k j : Nat} {cs : Array Value} {T : TypeId} (h : Blk w k cs T) (i : Nat) (u : Value) (hne : j ≠ k) : Blk (w.setCell ⟨j, i, none⟩ u) k cs T := by
  unfold Blk at *
  rw [heap_setCell_other w ⟨j, i, none⟩ k u (fun e => hne e.symm)]
  exact h
/-- a block of four cells is written whole -/
abbrev set4 (w : World) (k : Nat) (x0 x1 x2 x3 : Value) : World := (((w.setCell ⟨k, 0, none⟩ x0).setCell ⟨k, 1, none⟩ x1).setCell ⟨k, 2, none⟩ x2).setCell ⟨k, 3, none⟩ x3
theorem blk_set4 {w : World} {k : Nat} {a b c d : Value} {T : TypeId} (h : Blk w k #[a, b, c, d] T) (x0 x1 x2 x3 : Value) : Blk (set4 w k x0 x1 x2 x3) k #[x0, x1, x2, x3] T :=
  blk_setAt (blk_setAt (blk_setAt (blk_setAt h 0 x0) 1 x1) 2 x2) 3 x3
theorem blk_other4 {w : World} {k j : Nat} {cs : Array Value} {T : TypeId} (h : Blk w k cs T) (x0 x1 x2 x3 : Value) (hne : j ≠ k) : Blk (set4 w j x0 x1 x2 x3) k cs T :=
  blk_otherAt (blk_otherAt (blk_otherAt (blk_otherAt h 0 x0 hne) 1 x1 hne) 2 x2 hne) 3 x3 hne
theorem below_set4 {n k : Nat} {w w1 : World} (h : Below n w w1) (hk : n ≤ k) (x0 x1 x2 x3 : Value) : Below n w (set4 w1 k x0 x1 x2 x3) :=
  (((h.setCell (p := ⟨k, 0, none⟩) hk x0).setCell (p := ⟨k, 1, none⟩) hk x1).setCell (p := ⟨k, 2, none⟩) hk x2).setCell (p := ⟨k, 3, none⟩) hk x3

theorem set4_cell {w : World} {k : Nat} {a b c d : Value} {T : TypeId} (h : Blk w k #[a, b, c, d] T) (x0 x1 x2 x3 : Value) :
    ((((w.setCell ⟨k, 0, none⟩ x0).setCell ⟨k, 1, none⟩ x1).setCell ⟨k, 2, none⟩ x2).setCell ⟨k, 3, none⟩ x3).cell? ⟨k, 0, none⟩ = some x0
    ∧ ((((w.setCell ⟨k, 0, none⟩ x0).setCell ⟨k, 1, none⟩ x1).setCell ⟨k, 2, none⟩ x2).setCell ⟨k, 3, none⟩ x3).cell? ⟨k, 1, none⟩ = some x1
    ∧ ((((w.setCell ⟨k, 0, none⟩ x0).setCell ⟨k, 1, none⟩ x1).setCell ⟨k, 2, none⟩ x2).setCell ⟨k, 3, none⟩ x3).cell? ⟨k, 2, none⟩ = some x2
    ∧ ((((w.setCell ⟨k, 0, none⟩ x0).setCell ⟨k, 1, none⟩ x1).setCell ⟨k, 2, none⟩ x2).setCell ⟨k, 3, none⟩ x3).cell? ⟨k, 3, none⟩ = some x3 :=
  have e := blk_setAt (blk_setAt (blk_setAt (blk_setAt h 0 x0) 1 x1) 2 x2) 3 x3
  ⟨blk_cell e 0 x0 rfl, blk_cell e 1 x1 rfl, blk_cell e 2 x2 rfl, blk_cell e 3 x3 rfl⟩


end Go.Proofs.Ytconccgfhdmafaa
