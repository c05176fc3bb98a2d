/- Layer 11: a state of clusters as a value. -/
import Derived.Test.YtconccgfhdmafaaClM
import Derived.Test.YtconccgfhdmafaaBasP
namespace Go.Proofs.Ytconccgfhdmafaa
set_option linter.unusedSimpArgs false
set_option linter.unusedVariables false
open Go.RowKit Go.Lib

/-- a state of clusters as a value -/
def csV (s : Clu.CS) : Value := .agg #[.bool s.on, .int .i64 s.kind, .bool s.pict, .bool s.odd]

end Go.Proofs.Ytconccgfhdmafaa
