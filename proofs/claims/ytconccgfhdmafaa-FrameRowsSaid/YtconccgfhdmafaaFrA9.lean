/- Layer 13: what the code's functions tell. -/
import Derived.Test.YtconccgfhdmafaaFrA3
namespace Go.Proofs.Ytconccgfhdmafaa
set_option linter.unusedSimpArgs false
set_option linter.unusedVariables false

theorem putC13 : PutC13 := put13_any
theorem takeC13 : TakeC13 := take13_any
theorem allC13 : AllC13 := all13_any
theorem refC13 : RefC13 := refusal13_any

end Go.Proofs.Ytconccgfhdmafaa
