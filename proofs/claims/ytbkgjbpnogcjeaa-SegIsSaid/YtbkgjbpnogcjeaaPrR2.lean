/- Layer 3: the document's table of kinds. -/
import Derived.Test.YtbkgjbpnogcjeaaPrP
import Derived.Deep.LoopGhost
import Derived.Deep.DeepCutAuto
namespace Go.Proofs.Ytbkgjbpnogcjeaa
set_option linter.unusedSimpArgs false
set_option linter.unusedVariables false
open Go.RowKit Go.Lib

set_option maxRecDepth 100000 in
set_option maxHeartbeats 1600000 in
theorem rkinds_any (w : World) :
    Calls Try.prog 41 #[] w fun e w' => e = .returned (.slice (some ⟨w.heap.size, 0, none⟩) 53 53) ∧ w' = w.alloc (.cells (flat Prp.kinds).toArray 71) := by
  go_enter Try.func41, Try.ntmps41
  go_upto_region 1 with (fail)
  refine wp_region_lit ?_
  refine wpList_runOps 54 (a' := { tmps := #[.slice none 0 0, .agg #[.int .i64 0, .int .i64 9, .int .i64 3], .agg #[.int .i64 10, .int .i64 10, .int .i64 2], .agg #[.int .i64 11, .int .i64 12, .int .i64 3], .agg #[.int .i64 13, .int .i64 13, .int .i64 1], .agg #[.int .i64 14, .int .i64 31, .int .i64 3], .agg #[.int .i64 127, .int .i64 159, .int .i64 3], .agg #[.int .i64 169, .int .i64 169, .int .i64 14], .agg #[.int .i64 173, .int .i64 173, .int .i64 3], .agg #[.int .i64 174, .int .i64 174, .int .i64 14], .agg #[.int .i64 768, .int .i64 879, .int .i64 4], .agg #[.int .i64 1536, .int .i64 1541, .int .i64 7], .agg #[.int .i64 1564, .int .i64 1564, .int .i64 3], .agg #[.int .i64 1611, .int .i64 1631, .int .i64 4], .agg #[.int .i64 1757, .int .i64 1757, .int .i64 7], .agg #[.int .i64 2307, .int .i64 2307, .int .i64 8], .agg #[.int .i64 2363, .int .i64 2363, .int .i64 8], .agg #[.int .i64 2364, .int .i64 2364, .int .i64 4], .agg #[.int .i64 2366, .int .i64 2368, .int .i64 8], .agg #[.int .i64 2377, .int .i64 2380, .int .i64 8], .agg #[.int .i64 2381, .int .i64 2381, .int .i64 4], .agg #[.int .i64 4352, .int .i64 4447, .int .i64 9], .agg #[.int .i64 4448, .int .i64 4519, .int .i64 10], .agg #[.int .i64 4520, .int .i64 4607, .int .i64 11], .agg #[.int .i64 8203, .int .i64 8203, .int .i64 3], .agg #[.int .i64 8204, .int .i64 8204, .int .i64 4], .agg #[.int .i64 8205, .int .i64 8205, .int .i64 5], .agg #[.int .i64 8206, .int .i64 8207, .int .i64 3], .agg #[.int .i64 8232, .int .i64 8238, .int .i64 3], .agg #[.int .i64 8252, .int .i64 8252, .int .i64 14], .agg #[.int .i64 8265, .int .i64 8265, .int .i64 14], .agg #[.int .i64 8288, .int .i64 8303, .int .i64 3], .agg #[.int .i64 8400, .int .i64 8432, .int .i64 4], .agg #[.int .i64 8482, .int .i64 8482, .int .i64 14], .agg #[.int .i64 8505, .int .i64 8505, .int .i64 14], .agg #[.int .i64 8596, .int .i64 8601, .int .i64 14], .agg #[.int .i64 8986, .int .i64 8987, .int .i64 14], .agg #[.int .i64 9728, .int .i64 9732, .int .i64 14], .agg #[.int .i64 9745, .int .i64 9745, .int .i64 14], .agg #[.int .i64 9748, .int .i64 9749, .int .i64 14], .agg #[.int .i64 9786, .int .i64 9786, .int .i64 14], .agg #[.int .i64 9829, .int .i64 9829, .int .i64 14], .agg #[.int .i64 9889, .int .i64 9889, .int .i64 14], .agg #[.int .i64 9989, .int .i64 9989, .int .i64 14], .agg #[.int .i64 10084, .int .i64 10084, .int .i64 14], .agg #[.int .i64 12441, .int .i64 12442, .int .i64 4], .agg #[.int .i64 65024, .int .i64 65039, .int .i64 4], .agg #[.int .i64 65279, .int .i64 65279, .int .i64 3], .agg #[.int .i64 127462, .int .i64 127487, .int .i64 6], .agg #[.int .i64 127744, .int .i64 127994, .int .i64 14], .agg #[.int .i64 127995, .int .i64 127999, .int .i64 4], .agg #[.int .i64 128000, .int .i64 128591, .int .i64 14], .agg #[.int .i64 128640, .int .i64 128767, .int .i64 14], .agg #[.int .i64 129280, .int .i64 129535, .int .i64 14], .slice (some ⟨w.heap.size, 0, none⟩) 53 53], defers := [] }) (w' := w.alloc (.cells (flat Prp.kinds).toArray 71)) (by kernel_rfl) ?_
  simp only [List.drop_succ_cons, List.drop_zero]
  go_wp2_with fail
  go_ret
  exact ⟨rfl, rfl⟩
end Go.Proofs.Ytbkgjbpnogcjeaa
