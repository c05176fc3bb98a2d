/- Layer 5: what later layers ask of pair's Join holds. -/
import Derived.Test.YtkhjkodeolaemaaDoorPaA4
import Derived.Test.YtkhjkodeolaemaaDoorPaS
namespace Go.Proofs.YtkhjkodeolaemaaDoor
set_option linter.unusedSimpArgs false
set_option linter.unusedVariables false
open Go.RowKit Go.Lib

theorem joinYes : JoinYes := fun a b x h w => by
  have := join_any a b w
  rw [h] at this
  exact this
theorem joinNot : JoinNot := fun a b h w => by
  have := join_any a b w
  rw [h] at this
  exact this

end Go.Proofs.YtkhjkodeolaemaaDoor
