/- Base of every layer: a block of some cells that the call made, known whole. -/
import Derived.Test.YtkhjkodeolaemaaDoorG0
namespace Go.Proofs.YtkhjkodeolaemaaDoor
set_option linter.unusedSimpArgs false
set_option linter.unusedVariables false
open Go.RowKit Go.Lib

def Blk (w : World) (k : Nat) (cs : Array Value) (T : TypeId) : Prop := w.heap[k]? = some (.cells cs T)

theorem blk_lt {w : World} {k : Nat} {cs : Array Value} {T : TypeId} (h : Blk w k cs T) : k < w.heap.size := (Array.getElem?_eq_some_iff.1 h).1
theorem blk_new (w : World) (cs : Array Value) (T : TypeId) : Blk (w.alloc (.cells cs T)) w.heap.size cs T := heap_alloc_new w _
theorem blk_below {w w1 : World} {k : Nat} {cs : Array Value} {T : TypeId} (h : Blk w k cs T) (hb : Below w.heap.size w w1) : Blk w1 k cs T := by
  unfold Blk at *
  rw [hb.block k (blk_lt h)]
  exact h
theorem blk_alloc {w : World} {k : Nat} {cs : Array Value} {T : TypeId} (h : Blk w k cs T) (o : Obj) : Blk (w.alloc o) k cs T := blk_below h (below_new w o)
theorem blk_drewN {w : World} {k : Nat} {cs : Array Value} {T : TypeId} (h : Blk w k cs T) (n : Nat) : Blk (w.drewN n) k cs T := h
theorem blk_drew {w : World} {k : Nat} {cs : Array Value} {T : TypeId} (h : Blk w k cs T) : Blk w.drew k cs T := h
theorem blk_cell {w : World} {k : Nat} {cs : Array Value} {T : TypeId} (h : Blk w k cs T) (i : Nat) (v : Value) (hv : cs[i]? = some v) : w.cell? ⟨k, i, none⟩ = some v := by
  unfold Blk at h
  simp [World.cell?, h, hv]
theorem blk_thaw {w : World} {k : Nat} {cs : Array Value} {T : TypeId} (h : Blk w k cs T) (i : Nat) : w.frozen? ⟨k, i, none⟩ = false := by
  unfold Blk at h
  simp [World.frozen?, h]

end Go.Proofs.YtkhjkodeolaemaaDoor
