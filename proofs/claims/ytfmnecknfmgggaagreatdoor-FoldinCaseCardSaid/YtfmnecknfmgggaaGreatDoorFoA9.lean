/- Layer 10: what the statements ask of the code's functions holds. -/
import Derived.Test.YtfmnecknfmgggaaGreatDoorFoA6
import Derived.Test.YtfmnecknfmgggaaGreatDoorFoA7
namespace Go.Proofs.YtfmnecknfmgggaaGreatDoor
set_option linter.unusedSimpArgs false
set_option linter.unusedVariables false
open Go.RowKit Go.Lib

theorem dropsC : DropsC := fun r w => drops_any r w
theorem caseC : CaseC := fun v l w hl hv hw => (all_any v l w (by omega) hv hw).mono fun _ _ => told_of_makes

end Go.Proofs.YtfmnecknfmgggaaGreatDoor
