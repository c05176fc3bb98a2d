/- Layer 3: the document's Drops. -/
import Derived.Test.YtfmnecknfmgggaaGreatDoorPrRP
import Derived.Test.YtfmnecknfmgggaaGreatDoorPrR3
namespace Go.Proofs.YtfmnecknfmgggaaGreatDoor
set_option linter.unusedSimpArgs false
set_option linter.unusedVariables false
open Go.RowKit Go.Lib

theorem rdrops_any (r : Int) (w : World) :
    Calls Tryz.prog 24 #[.int .i64 r] w fun e w' => e = .returned (.bool (Prp.drpB r)) ∧ Below w.heap.size w w' := by
  unfold Prp.drpB
  go_enter Tryz.func24, Tryz.ntmps24
  go_wp2_with fail
  refine (rdropped_any _).mono ?_
  rintro e w1 ⟨rfl, hw⟩
  replace hw := Lib.hid hw
  go_wp2_with fail
  refine (rspan_any Prp.dropped (by decide) w.heap.size r w1 (by rw [hw.out]; exact rows_new w _ _ Prp.dropped rfl) 15 rfl).mono ?_
  rintro e w2 ⟨rfl, rfl⟩
  go_wp2_with fail
  go_ret
  exact ⟨rfl, by rw [hw.out]; exact below_new _ _⟩

end Go.Proofs.YtfmnecknfmgggaaGreatDoor
