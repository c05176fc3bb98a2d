/- Layer 11: a state of clusters as a value. -/
import Derived.Test.YtbkgjbpnogcjeaaClM
import Derived.Test.YtbkgjbpnogcjeaaBasP
namespace Go.Proofs.Ytbkgjbpnogcjeaa
set_option linter.unusedSimpArgs false
set_option linter.unusedVariables false
open Go.RowKit Go.Lib

/-- a state of clusters as a value -/
def csV (s : Clu.CS) : Value := .agg #[.bool s.on, .int .i64 s.kind, .bool s.pict, .bool s.odd]

end Go.Proofs.Ytbkgjbpnogcjeaa
