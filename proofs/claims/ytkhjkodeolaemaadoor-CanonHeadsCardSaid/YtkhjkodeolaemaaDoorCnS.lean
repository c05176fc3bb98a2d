/- Layer 7: what is asked of the code's functions. -/
import Derived.Test.YtkhjkodeolaemaaDoorCnC
import Derived.Test.YtkhjkodeolaemaaDoorSs
namespace Go.Proofs.YtkhjkodeolaemaaDoor
set_option linter.unusedSimpArgs false
set_option linter.unusedVariables false
open Go.RowKit Go.Lib

/-- what Order, Sorted, Marks and Compose of the code tell -/
def OrderC : Prop := ∀ (v : Value) (l : List Int) (w : World), l.length ≤ 10000 → RI w v l → WfI l → Calls Tryd.prog 10 #[v] w (Told (Can.orderI l) w)
def SortedC : Prop := ∀ (v : Value) (l : List Int) (w : World), l.length ≤ 10000 → RI w v l → WfI l → Calls Tryd.prog 12 #[v] w fun e w' => e = .returned (.bool (Can.sortedB l)) ∧ Below w.heap.size w w'
def MarksC : Prop := ∀ (v : Value) (l : List Int) (w : World), l.length ≤ 10000 → RI w v l → WfI l → Calls Tryd.prog 14 #[v] w fun e w' => e = .returned (.int .i64 (Can.marksI l : Nat)) ∧ Below w.heap.size w w'
def ComposeC : Prop := ∀ (v : Value) (l : List Int) (w : World), l.length ≤ 10000 → RI w v l → WfI l → Calls Tryd.prog 16 #[v] w (Told (Can.composeI l) w)

theorem order_of (h : OrderC) {v : Value} {l m : List Int} {w : World} (e : Can.orderI l = m) (hl : l.length ≤ 10000) (hv : RI w v l) (hw : WfI l) : Calls Tryd.prog 10 #[v] w (Told m w) := e ▸ h v l w hl hv hw
theorem sorted_of (h : SortedC) {v : Value} {l : List Int} {c : Bool} {w : World} (e : Can.sortedB l = c) (hl : l.length ≤ 10000) (hv : RI w v l) (hw : WfI l) : Calls Tryd.prog 12 #[v] w fun e w' => e = .returned (.bool c) ∧ Below w.heap.size w w' := e ▸ h v l w hl hv hw
theorem marks_of (h : MarksC) {v : Value} {l : List Int} {n : Nat} {w : World} (e : Can.marksI l = n) (hl : l.length ≤ 10000) (hv : RI w v l) (hw : WfI l) : Calls Tryd.prog 14 #[v] w fun e w' => e = .returned (.int .i64 (n : Nat)) ∧ Below w.heap.size w w' := e ▸ h v l w hl hv hw
theorem compose_of (h : ComposeC) {v : Value} {l m : List Int} {w : World} (e : Can.composeI l = m) (hl : l.length ≤ 10000) (hv : RI w v l) (hw : WfI l) : Calls Tryd.prog 16 #[v] w (Told m w) := e ▸ h v l w hl hv hw

theorem wf_order {l : List Int} (h : WfI l) : WfI (Can.orderI l) := fun _ hx => h _ (Can.order_mem hx)

end Go.Proofs.YtkhjkodeolaemaaDoor
