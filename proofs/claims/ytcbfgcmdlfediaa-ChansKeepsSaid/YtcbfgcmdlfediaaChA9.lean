/- Layer 16: what the code's functions tell. -/
import Derived.Test.YtcbfgcmdlfediaaChA3
namespace Go.Proofs.Ytcbfgcmdlfediaa
set_option linter.unusedSimpArgs false
set_option linter.unusedVariables false
open Go.RowKit Go.Lib
open Stg (Ch)
theorem saneC16 : SaneC16 := sane16
end Go.Proofs.Ytcbfgcmdlfediaa
