/- Layer 5: what is asked of pair's Join by the statements of later layers. -/
import Derived.Test.YtkhjkodeolaemaaDoorPaM
import Derived.Test.YtkhjkodeolaemaaDoorSs
namespace Go.Proofs.YtkhjkodeolaemaaDoor
set_option linter.unusedSimpArgs false
set_option linter.unusedVariables false
open Go.RowKit Go.Lib

/-- what Join of pair tells -/
def JoinYes : Prop := ∀ (a b x : Int), Par.joinI a b = some x → ∀ w, Calls Tryd.prog 23 #[.int .i64 a, .int .i64 b] w fun e w' => e = .returned (.tuple #[.int .i64 x, .bool true]) ∧ Below w.heap.size w w'
def JoinNot : Prop := ∀ (a b : Int), Par.joinI a b = none → ∀ w, Calls Tryd.prog 23 #[.int .i64 a, .int .i64 b] w fun e w' => e = .returned (.tuple #[.int .i64 0, .bool false]) ∧ Below w.heap.size w w'

end Go.Proofs.YtkhjkodeolaemaaDoor
