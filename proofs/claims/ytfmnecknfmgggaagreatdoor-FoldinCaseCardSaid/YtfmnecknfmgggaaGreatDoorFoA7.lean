/- Layer 10: the code's All. -/
import Derived.Test.YtfmnecknfmgggaaGreatDoorFoA3
import Derived.Test.YtfmnecknfmgggaaGreatDoorNoA9
namespace Go.Proofs.YtfmnecknfmgggaaGreatDoor
set_option linter.unusedSimpArgs false
set_option linter.unusedVariables false
open Go.RowKit Go.Lib

set_option maxHeartbeats 1600000 in
set_option maxRecDepth 100000 in
theorem allC10 : AllC10 := by
  intro v l w hl hv hw
  have h1 := left10_any v l w (by omega) hv hw
  have h2 := left_le l
  rw [show Fol.allI l = Nor.allI (Fol.leftI l) from (Fol.all_form l).trans (Nor.all_form _).symm]
  obtain ⟨m, hm⟩ : ∃ m, Fol.leftI l = m := ⟨_, rfl⟩
  rw [hm] at h1 h2 ⊢
  have h3 := fun (v : Value) (W : World) h => all9_wide v m W (by omega) h
  obtain ⟨A, hA⟩ : ∃ A, Nor.allI m = A := ⟨_, rfl⟩
  rw [hA] at h3 ⊢
  replace h1 := Lib.hid h1
  replace h3 := Lib.hid h3
  clear hm hA h2
  go_enter Tryz.func11, Tryz.ntmps11
  go_wp2_with fail
  refine h1.out.mono ?_
  rintro e w1 ⟨v1, rfl, ho1, hb1⟩
  have g3 := Lib.hid (h3.out v1 w1 (ri_of_own ho1))
  obtain ⟨p1, c1, rfl⟩ := ri_form (ri_of_own ho1)
  replace hb1 := Lib.hid hb1
  clear ho1
  go_wp2_with fail
  refine g3.out.mono ?_
  rintro e w2 ⟨v2, rfl, hr2, hb2⟩
  replace hr2 := Lib.hid hr2
  replace hb2 := Lib.hid (below_on hb1.out hb2)
  obtain ⟨p2, c2, rfl⟩ := ri_form hr2.out
  go_wp2_with fail
  go_ret
  exact ⟨_, rfl, hr2.out, hb2.out⟩

end Go.Proofs.YtfmnecknfmgggaaGreatDoor
