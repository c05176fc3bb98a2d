/- Layer 12: a state of clusters, with its values, as a value. -/
import Derived.Test.YtconccgfhdmafaaClB
namespace Go.Proofs.Ytconccgfhdmafaa
set_option linter.unusedSimpArgs false
set_option linter.unusedVariables false
open Go.RowKit Go.Lib

/-- a state of layer 12 as a value: flat -/
def sgV (v : Value) (s : Clu.CS) : Value := .agg #[v, .bool s.on, .int .i64 s.kind, .bool s.pict, .bool s.odd]

end Go.Proofs.Ytconccgfhdmafaa
