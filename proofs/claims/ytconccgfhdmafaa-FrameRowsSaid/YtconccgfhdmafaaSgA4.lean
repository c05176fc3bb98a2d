/- Layer 12: the code's Feed. -/
import Derived.Test.YtconccgfhdmafaaSgA3
namespace Go.Proofs.Ytconccgfhdmafaa
set_option linter.unusedSimpArgs false
set_option linter.unusedVariables false
open Go.RowKit Go.Lib

theorem well_len (l : List Int) (s : Clu.CS) : (wellS l s).1.length ≤ 32 := by
  have h := well_sane l s
  unfold Sgm.saneB at h
  simp only [Bool.and_eq_true, decide_eq_true_eq] at h
  exact h.1.1
theorem bhd_toldO {B : Nat} {v va vb : Value} {c : List Int} {q : (List Int × Clu.CS) × List Int} {w w' : World} (h : Bhd B v c q va vb w w') : OwnI B vb q.2 w' := by
  rcases h.told with ⟨rfl, h2, h3, _⟩ | ⟨rfl, h2, _⟩
  · rw [h2]
    exact h3
  · rw [h2]
    exact ownI_nil _ _


end Go.Proofs.Ytconccgfhdmafaa
