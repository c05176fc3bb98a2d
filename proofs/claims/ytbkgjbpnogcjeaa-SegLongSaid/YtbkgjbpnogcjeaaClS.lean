/- Layer 11: what is asked of the code's functions; the statements' own helpers. -/
import Derived.Test.YtbkgjbpnogcjeaaClB
import Derived.Test.YtbkgjbpnogcjeaaG3
import Derived.Test.YtbkgjbpnogcjeaaBasP
namespace Go.Proofs.Ytbkgjbpnogcjeaa
set_option linter.unusedSimpArgs false
set_option linter.unusedVariables false
open Go.RowKit Go.Lib

/-- what Sane, Ends, Next and Cuts of the code tell -/
def SaneC11 : Prop := ∀ (s : Clu.CS) (w : World), Calls Try.prog 28 #[csV s] w fun e w' => e = .returned (.bool (Clu.saneB s)) ∧ Below w.heap.size w w'
def EndsC11 : Prop := ∀ (s : Clu.CS) (r : Int) (w : World), Calls Try.prog 31 #[csV s, .int .i64 r] w fun e w' => e = .returned (.bool (Clu.endsI s r)) ∧ Below w.heap.size w w'
def NextC11 : Prop := ∀ (s : Clu.CS) (r : Int) (w : World), Calls Try.prog 32 #[csV s, .int .i64 r] w fun e w' => e = .returned (csV (Clu.nextI s r)) ∧ Below w.heap.size w w'
def CutsC11 : Prop := ∀ (v : Value) (l : List Int) (w : World), l.length ≤ 10000 → RI w v l → Calls Try.prog 22 #[v] w (ToldT (Clu.cutsI Clu.zero l) w)
def GcbC : Prop := ∀ (r : Int) (w : World), Calls Try.prog 39 #[.int .i64 r] w fun e w' => e = .returned (.int .i64 (Prp.gcbI r)) ∧ Below w.heap.size w w'

theorem cuts_of11 (h : CutsC11) {v : Value} {l : List Int} {m : List Bool} {w : World} (e : Clu.cutsI Clu.zero l = m) (hl : l.length ≤ 10000) (hv : RI w v l) : Calls Try.prog 22 #[v] w (ToldT m w) := e ▸ h v l w hl hv

end Go.Proofs.Ytbkgjbpnogcjeaa
