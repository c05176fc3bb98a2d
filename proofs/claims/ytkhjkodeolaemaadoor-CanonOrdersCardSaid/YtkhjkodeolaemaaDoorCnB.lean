/- Layer 7: what the statements ask of the code's functions holds. -/
import Derived.Test.YtkhjkodeolaemaaDoorCnA4
import Derived.Test.YtkhjkodeolaemaaDoorCnA6
import Derived.Test.YtkhjkodeolaemaaDoorPaB
namespace Go.Proofs.YtkhjkodeolaemaaDoor
set_option linter.unusedSimpArgs false
set_option linter.unusedVariables false
theorem composeC : ComposeC := composeC_of joinYes joinNot
end Go.Proofs.YtkhjkodeolaemaaDoor
