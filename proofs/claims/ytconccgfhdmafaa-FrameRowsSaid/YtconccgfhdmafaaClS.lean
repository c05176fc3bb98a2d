/- Layer 11: what is asked of the code's functions; the statements' own helpers. -/
import Derived.Test.YtconccgfhdmafaaClB
import Derived.Test.YtconccgfhdmafaaG3
import Derived.Test.YtconccgfhdmafaaBasP
namespace Go.Proofs.Ytconccgfhdmafaa
set_option linter.unusedSimpArgs false
set_option linter.unusedVariables false
open Go.RowKit Go.Lib

/-- what Sane, Ends, Next and Cuts of the code tell -/
def SaneC11 : Prop := ∀ (s : Clu.CS) (w : World), Calls Try.prog 54 #[csV s] w fun e w' => e = .returned (.bool (Clu.saneB s)) ∧ Below w.heap.size w w'
def EndsC11 : Prop := ∀ (s : Clu.CS) (r : Int) (w : World), Calls Try.prog 50 #[csV s, .int .i64 r] w fun e w' => e = .returned (.bool (Clu.endsI s r)) ∧ Below w.heap.size w w'
def NextC11 : Prop := ∀ (s : Clu.CS) (r : Int) (w : World), Calls Try.prog 49 #[csV s, .int .i64 r] w fun e w' => e = .returned (csV (Clu.nextI s r)) ∧ Below w.heap.size w w'
def GcbC : Prop := ∀ (r : Int) (w : World), Calls Try.prog 52 #[.int .i64 r] w fun e w' => e = .returned (.int .i64 (Prp.gcbI r)) ∧ Below w.heap.size w w'


end Go.Proofs.Ytconccgfhdmafaa
