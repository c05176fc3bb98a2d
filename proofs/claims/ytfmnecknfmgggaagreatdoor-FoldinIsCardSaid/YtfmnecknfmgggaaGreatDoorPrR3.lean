/- Layer 3: the document's table of dropped. -/
import Derived.Test.YtfmnecknfmgggaaGreatDoorPrP
import Derived.Deep.LoopGhost
import Derived.Deep.DeepCutAuto
namespace Go.Proofs.YtfmnecknfmgggaaGreatDoor
set_option linter.unusedSimpArgs false
set_option linter.unusedVariables false
open Go.RowKit Go.Lib

set_option maxRecDepth 100000 in
set_option maxHeartbeats 1600000 in
theorem rdropped_any (w : World) :
    Calls Tryz.prog 44 #[] w fun e w' => e = .returned (.slice (some ⟨w.heap.size, 0, none⟩) 15 15) ∧ w' = w.alloc (.cells (flat Prp.dropped).toArray 72) := by
  go_enter Tryz.func44, Tryz.ntmps44
  go_upto_region 1 with (fail)
  refine wp_region_lit ?_
  refine wpList_runOps 16 (a' := { tmps := #[.slice none 0 0, .agg #[.int .i64 173, .int .i64 173, .int .i64 0], .agg #[.int .i64 847, .int .i64 847, .int .i64 0], .agg #[.int .i64 1564, .int .i64 1564, .int .i64 0], .agg #[.int .i64 4447, .int .i64 4448, .int .i64 0], .agg #[.int .i64 6068, .int .i64 6069, .int .i64 0], .agg #[.int .i64 6155, .int .i64 6159, .int .i64 0], .agg #[.int .i64 8203, .int .i64 8207, .int .i64 0], .agg #[.int .i64 8234, .int .i64 8238, .int .i64 0], .agg #[.int .i64 8288, .int .i64 8303, .int .i64 0], .agg #[.int .i64 12644, .int .i64 12644, .int .i64 0], .agg #[.int .i64 65024, .int .i64 65039, .int .i64 0], .agg #[.int .i64 65279, .int .i64 65279, .int .i64 0], .agg #[.int .i64 65440, .int .i64 65440, .int .i64 0], .agg #[.int .i64 65520, .int .i64 65528, .int .i64 0], .agg #[.int .i64 917504, .int .i64 921599, .int .i64 0], .slice (some ⟨w.heap.size, 0, none⟩) 15 15], defers := [] }) (w' := w.alloc (.cells (flat Prp.dropped).toArray 72)) (by kernel_rfl) ?_
  simp only [List.drop_succ_cons, List.drop_zero]
  go_wp2_with fail
  go_ret
  exact ⟨rfl, rfl⟩
end Go.Proofs.YtfmnecknfmgggaaGreatDoor
