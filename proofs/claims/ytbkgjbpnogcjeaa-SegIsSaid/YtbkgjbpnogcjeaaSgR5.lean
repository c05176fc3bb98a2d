/- Layer 12: the document's All. -/
import Derived.Test.YtbkgjbpnogcjeaaSgO
import Derived.Test.YtbkgjbpnogcjeaaSgR4
import Derived.Deep.RegionHeld3
import Derived.Deep.DeepCutAuto
namespace Go.Proofs.Ytbkgjbpnogcjeaa
set_option linter.unusedSimpArgs false
set_option linter.unusedVariables false
open Go.RowKit Go.Lib

theorem ownR_set5 {B k : Nat} {v : Value} {ls : List (List Int)} {w : World} (h : OwnR B v ls w) (hk : k < B) (x0 x1 x2 x3 x4 : Value) : OwnR B v ls (set5 w k x0 x1 x2 x3 x4) := by
  obtain ⟨us, h1, hn, h3⟩ := h
  have hne := row_ne h1 hk
  exact ⟨us, row_set (row_set (row_set (row_set (row_set h1 _ _ hne) _ _ hne) _ _ hne) _ _ hne) _ _ hne, hn, fun i u l hu hl => ownI_set5 (h3 i u l hu hl) hk x0 x1 x2 x3 x4⟩

end Go.Proofs.Ytbkgjbpnogcjeaa
