/- Layer 3: Ccc and Mark of the code, of a number whose class is known. -/
import Derived.Test.YtkhjkodeolaemaaDoorPrA2
namespace Go.Proofs.YtkhjkodeolaemaaDoor
set_option linter.unusedSimpArgs false
set_option linter.unusedVariables false
open Go.RowKit Go.Lib

theorem ccc_of (r c : Int) (h : Prp.cccI r = c) (w : World) : Calls Tryd.prog 19 #[.int .i64 r] w fun e w' => e = .returned (.int .i64 c) ∧ Below w.heap.size w w' := h ▸ ccc_any r w
theorem mark_of (r : Int) (c : Bool) (h : Prp.mrkB r = c) (w : World) : Calls Tryd.prog 18 #[.int .i64 r] w fun e w' => e = .returned (.bool c) ∧ Below w.heap.size w w' := h ▸ mark_any r w

end Go.Proofs.YtkhjkodeolaemaaDoor
