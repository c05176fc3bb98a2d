/- Small laws of every layer: a list against itself; whole numbers that an int holds. -/
import Derived.Test.YtkhjkodeolaemaaDoorSa
namespace Go.Proofs.YtkhjkodeolaemaaDoor
set_option linter.unusedSimpArgs false
set_option linter.unusedVariables false
open Go.RowKit Go.Lib

theorem same_self (v1 v2 : Value) (l : List Int) (w : World) (hl : l.length ≤ 100000) (h1 : RI w v1 l) (h2 : RI w v2 l) :
    Calls Tryd.prog 9 #[v1, v2] w fun e w' => e = .returned (.bool true) ∧ Below w.heap.size w w' := by
  refine (same_any v1 v2 l l w hl h1 h2).mono ?_
  rintro e w' ⟨rfl, n, rfl⟩
  exact ⟨by rw [show sameB l l = true from decide_eq_true rfl], drewN_below w n⟩

theorem same_eq (v1 v2 : Value) (l m : List Int) (w : World) (he : l = m) (hl : l.length ≤ 100000) (h1 : RI w v1 l) (h2 : RI w v2 m) :
    Calls Tryd.prog 9 #[v1, v2] w fun e w' => e = .returned (.bool true) ∧ Below w.heap.size w w' := by
  subst he
  exact same_self v1 v2 l w hl h1 h2

/-- numbers that an int holds -/
def WfI (l : List Int) : Prop := ∀ x ∈ l, -9223372036854775808 ≤ x ∧ x ≤ 9223372036854775807

theorem wfI_app {a b : List Int} (ha : WfI a) (hb : WfI b) : WfI (a ++ b) := fun x hx => (List.mem_append.1 hx).elim (ha x) (hb x)
theorem wfI_nil : WfI [] := fun x hx => by cases hx
theorem wfI_cons {x : Int} {l : List Int} (hx : -9223372036854775808 ≤ x ∧ x ≤ 9223372036854775807) (hl : WfI l) : WfI (x :: l) := fun y hy => by
  rcases List.mem_cons.1 hy with rfl | h
  · exact hx
  · exact hl y h
theorem wfI_take {l : List Int} (h : WfI l) (k : Nat) : WfI (l.take k) := fun x hx => h x (List.mem_of_mem_take hx)
theorem wfI_drop {l : List Int} (h : WfI l) (k : Nat) : WfI (l.drop k) := fun x hx => h x (List.mem_of_mem_drop hx)

end Go.Proofs.YtkhjkodeolaemaaDoor
