/- Layer 14: what the statements on forms and frames ask of the code's dec, nfkc and canon holds. -/
import Derived.Test.YtnlnkjaapdefiaaGreatDoorFwQ
import Derived.Test.YtnlnkjaapdefiaaGreatDoorDcP
import Derived.Test.YtnlnkjaapdefiaaGreatDoorNfP
namespace Go.Proofs.YtnlnkjaapdefiaaGreatDoor
set_option linter.unusedSimpArgs false
set_option linter.unusedVariables false
open Go.RowKit Go.Lib
theorem goodC1 : GoodC1 := fun r w => good_any r w
theorem textC1 : TextC1 := fun v l w hl hv => Tx.text_any v l w hl hv
theorem allC1 : AllC1 := fun v b w hT hl hv => Tx.all_told v b w hT hl hv
theorem formW : FormW := fun v l w hl hv hwf => form_wide v l w hl hv hwf
theorem marksW : MarksW := fun v l w hl hv _ => marks_any7 v l w (by omega) hv
end Go.Proofs.YtnlnkjaapdefiaaGreatDoor
