/- Small laws of layer 11. -/
import Derived.Test.YtconccgfhdmafaaClB
import Derived.Test.YtconccgfhdmafaaB4
namespace Go.Proofs.Ytconccgfhdmafaa
set_option linter.unusedSimpArgs false
set_option linter.unusedVariables false
open Go.RowKit Go.Lib

theorem cuts_snoc (s : Clu.CS) (a : List Int) (r : Int) : Clu.cutsI s (a ++ [r]) = Clu.cutsI s a ++ [Clu.endsI (Clu.goI s a) r] := by
  rw [Clu.cuts_app]
  rfl

end Go.Proofs.Ytconccgfhdmafaa
