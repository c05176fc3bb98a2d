/- Layer 11: the contracts of the code as the walks' premises. -/
import Derived.Test.YtbkgjbpnogcjeaaClA3
import Derived.Test.YtbkgjbpnogcjeaaPrP
namespace Go.Proofs.Ytbkgjbpnogcjeaa
set_option linter.unusedSimpArgs false
set_option linter.unusedVariables false
open Go.RowKit Go.Lib

theorem saneC11 : SaneC11 := fun s w => csane_any s w
theorem endsC11 : EndsC11 := fun s r w => cends_any s r w
theorem nextC11 : NextC11 := fun s r w => cnext_any s r w
theorem cutsC11 : CutsC11 := fun v l w hl hv => ccuts_any v l w (by omega) hv
theorem gcbC : GcbC := fun r w => gcb_any r w

end Go.Proofs.Ytbkgjbpnogcjeaa
