/- Layer 12: the code's Sane. -/
import Derived.Test.YtconccgfhdmafaaClA2
import Derived.Test.YtconccgfhdmafaaSgS
import Derived.Test.YtconccgfhdmafaaNoB
namespace Go.Proofs.Ytconccgfhdmafaa
set_option linter.unusedSimpArgs false
set_option linter.unusedVariables false
open Go.RowKit Go.Lib


end Go.Proofs.Ytconccgfhdmafaa
