/- Layer 12: the contracts of the code as the walks' premises. -/
import Derived.Test.YtconccgfhdmafaaSgA7
namespace Go.Proofs.Ytconccgfhdmafaa
set_option linter.unusedSimpArgs false
set_option linter.unusedVariables false
open Go.RowKit Go.Lib

theorem allC12 : AllC12 := fun v l w hl hv => all12_any v l w hl hv

end Go.Proofs.Ytconccgfhdmafaa
