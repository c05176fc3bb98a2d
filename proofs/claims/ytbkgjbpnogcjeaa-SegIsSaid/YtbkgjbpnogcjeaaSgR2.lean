/- Layer 12: what the document's Feed comes to; a block of five cells. -/
import Derived.Test.YtbkgjbpnogcjeaaSgR1
import Derived.Test.YtbkgjbpnogcjeaaNoB
namespace Go.Proofs.Ytbkgjbpnogcjeaa
set_option linter.unusedSimpArgs false
set_option linter.unusedVariables false
open Go.RowKit Go.Lib

/-- a block of five cells is written whole -/
abbrev set5 (w : World) (k : Nat) (x0 x1 x2 x3 x4 : Value) : World := ((((w.setCell ⟨k, 0, none⟩ x0).setCell ⟨k, 1, none⟩ x1).setCell ⟨k, 2, none⟩ x2).setCell ⟨k, 3, none⟩ x3).setCell ⟨k, 4, none⟩ x4
theorem blk_set5 {w : World} {k : Nat} {a b c d e : Value} {T : TypeId} (h : Blk w k #[a, b, c, d, e] T) (x0 x1 x2 x3 x4 : Value) : Blk (set5 w k x0 x1 x2 x3 x4) k #[x0, x1, x2, x3, x4] T :=
  blk_setAt (blk_setAt (blk_setAt (blk_setAt (blk_setAt h 0 x0) 1 x1) 2 x2) 3 x3) 4 x4
theorem blk_other5 {w : World} {k j : Nat} {cs : Array Value} {T : TypeId} (h : Blk w k cs T) (x0 x1 x2 x3 x4 : Value) (hne : j ≠ k) : Blk (set5 w j x0 x1 x2 x3 x4) k cs T :=
  blk_otherAt (blk_other4 h x0 x1 x2 x3 hne) 4 x4 hne
theorem below_set5 {n k : Nat} {w w1 : World} (h : Below n w w1) (hk : n ≤ k) (x0 x1 x2 x3 x4 : Value) : Below n w (set5 w1 k x0 x1 x2 x3 x4) :=
  (below_set4 h hk x0 x1 x2 x3).setCell (p := ⟨k, 4, none⟩) hk x4

/-- what layer 12's Feed comes to -/
def Fed12 (q : (List Int × Clu.CS) × List Int) (w : World) (e : Ending) (w' : World) : Prop :=
  ∃ va vb, e = .returned (.tuple #[sgV va q.1.2, vb]) ∧ OwnI w.heap.size va q.1.1 w' ∧ RI w' vb q.2 ∧ Below w.heap.size w w'

end Go.Proofs.Ytbkgjbpnogcjeaa
