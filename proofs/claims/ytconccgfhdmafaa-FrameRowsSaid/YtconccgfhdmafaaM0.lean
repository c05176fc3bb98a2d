/- Which numbers are scalar values. -/
import Derived.Test.YtconccgfhdmafaaRows
namespace Go.Proofs.Ytconccgfhdmafaa
set_option linter.unusedSimpArgs false
set_option linter.unusedVariables false
namespace Dec

def goodB (r : Int) : Bool := decide (0 ≤ r) && decide (r ≤ 1114111) && (decide (r < 55296) || decide (57343 < r))

end Dec
end Go.Proofs.Ytconccgfhdmafaa
