/- Layer 3: the document's table of kinds. -/
import Derived.Test.YtccjabckojkomaaPrA2
namespace Go.Proofs.Ytccjabckojkomaa
open Go.RowKit Go.Lib

set_option maxRecDepth 100000 in
set_option maxHeartbeats 1600000 in
theorem rkinds_any (w : World) :
    Calls Try.prog 22 #[] w fun e w' => e = .returned (.slice (some ⟨w.heap.size, 0, none⟩) 53 53) ∧ w' = w.alloc (.cells (flat Prp.kinds).toArray 37) := by
  go_enter Try.func22, Try.ntmps22
  go_wp2_with fail
  refine wp_ok (v := .slice (some ⟨w.heap.size, 0, none⟩) 53 53) (w' := w.alloc (.cells (flat Prp.kinds).toArray 37)) (by kernel_rfl) ?_
  go_wp2_with fail
  go_ret
  exact ⟨rfl, rfl⟩
end Go.Proofs.Ytccjabckojkomaa
