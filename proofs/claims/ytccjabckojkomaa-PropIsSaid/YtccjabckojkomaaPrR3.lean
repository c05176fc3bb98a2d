/- Layer 3: the document's table of dropped. -/
import Derived.Test.YtccjabckojkomaaPrA2
namespace Go.Proofs.Ytccjabckojkomaa
open Go.RowKit Go.Lib

set_option maxRecDepth 100000 in
set_option maxHeartbeats 1600000 in
theorem rdropped_any (w : World) :
    Calls Try.prog 23 #[] w fun e w' => e = .returned (.slice (some ⟨w.heap.size, 0, none⟩) 15 15) ∧ w' = w.alloc (.cells (flat Prp.dropped).toArray 37) := by
  go_enter Try.func23, Try.ntmps23
  go_wp2_with fail
  go_ret
  exact ⟨rfl, rfl⟩
end Go.Proofs.Ytccjabckojkomaa
