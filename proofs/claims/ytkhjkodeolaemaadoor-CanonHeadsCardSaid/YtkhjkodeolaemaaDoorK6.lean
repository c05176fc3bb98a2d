/- Small laws of our own over any program: operations that only compute, many at once, run by the kernel. -/
import Derived.Tactics
import Derived.KernelRfl
namespace Go.Proofs.YtkhjkodeolaemaaDoor
set_option linter.unusedSimpArgs false
set_option linter.unusedVariables false
open Go

/-- n operations, one behind the other, each of which yields a value -/
def runOps (P : Program) (ops : Array Oper) : Nat → List Oper → Act → World → Option (Act × World)
  | 0, _, a, w => some (a, w)
  | n + 1, o :: rest, a, w =>
    if Region.wanted o (yielded ops a.tmps) then
      match (execOp a.eval o).run P w with
      | .ok (.value v) w' => runOps P ops n rest (a.put o.dst v) w'
      | _ => none
    else none
  | _ + 1, [], _, _ => none

theorem wpList_runOps {P : Program} {ops : Array Oper} {Q : Exit → Act → World → Prop} (n : Nat) : ∀ {l : List Oper} {a a' : Act} {w w' : World},
    runOps P ops n l a w = some (a', w') → wpList P ops Q (l.drop n) a' w' → wpList P ops Q l a w := by
  induction n with
  | zero =>
    intro l a a' w w' h k
    simp only [runOps, Option.some.injEq, Prod.mk.injEq] at h
    obtain ⟨rfl, rfl⟩ := h
    exact k
  | succ n ih =>
    intro l a a' w w' h k
    match l with
    | [] => simp [runOps] at h
    | o :: rest =>
      unfold runOps at h
      unfold wpList
      split at h
      · rename_i hw
        rw [if_pos hw]
        left
        split at h
        · rename_i v w1 hr
          unfold Oper.wp
          rw [hr]
          exact ih h k
        · cases h
      · cases h

/-- one operation whose run is known -/
theorem wp_ok {P : Program} {o : Oper} {a : Act} {w w' : World} {K : Act → World → Prop} {Q : Exit → Act → World → Prop} {v : Value} (h : (execOp a.eval o).run P w = .ok (.value v) w') (k : K (a.put o.dst v) w') : o.wp P a w K Q := by
  unfold Oper.wp
  rw [h]
  exact k

end Go.Proofs.YtkhjkodeolaemaaDoor
