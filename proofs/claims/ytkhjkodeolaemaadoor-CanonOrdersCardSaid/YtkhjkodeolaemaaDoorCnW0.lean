/- Layer 7: the document's example. -/
import Derived.Test.YtkhjkodeolaemaaDoorCnS
namespace Go.Proofs.YtkhjkodeolaemaaDoor
set_option linter.unusedSimpArgs false
set_option linter.unusedVariables false
open Go.RowKit Go.Lib

set_option maxHeartbeats 1600000 in
theorem awake7 (hO : OrderC) (hS : SortedC) (hM : MarksC) (hC : ComposeC) (w : World) :
    Calls Tryd.prog 8 #[] w fun e w' => e = .returned (.bool true) ∧ Below w.heap.size w w' := by
  have hr0 := Lib.hid (ri_of_own (ownI_lit w.heap.size w [97, 770, 803] #[.int .i64 97, .int .i64 770, .int .i64 803] w.heap.size 3 rfl (Nat.le_refl _) rfl rfl (by unfold maxLen; omega)))
  have hb0 := Lib.hid (below_new w (.cells #[.int .i64 97, .int .i64 770, .int .i64 803] 3))
  go_enter Tryd.func8, Tryd.ntmps8
  go_wp2_with fail
  refine (order_of hO (m := [97, 803, 770]) (by decide +kernel) (by simp) hr0.out (by unfold WfI; decide)).mono ?_
  rintro e w1 ⟨v, rfl, hv, hb1⟩
  obtain ⟨p, cap, rfl⟩ := ri_form hv
  obtain ⟨b, off, rfl, hlt, hcell⟩ := ri_at hv (by simp)
  have c1 := Lib.hid (show w1.cell? ⟨b, off + 1, none⟩ = some (.int .i64 803) from hcell 1 (by simp))
  replace hb1 := Lib.hid (below_on hb0.out hb1)
  replace hv := Lib.hid hv
  clear hcell hr0
  go_wp2_with fail
  refine (compose_of hC (m := [7853]) (by decide +kernel) (by simp) hv.out (by unfold WfI; decide)).mono ?_
  rintro e w2 ⟨v, rfl, hv2, hb2⟩
  obtain ⟨p, cap2, rfl⟩ := ri_form hv2
  obtain ⟨b2, off2, rfl, hlt2, hcell⟩ := ri_at hv2 (by simp)
  have c2 : w2.cell? ⟨b2, off2, none⟩ = some (.int .i64 7853) := hcell 0 (by simp)
  replace c1 : w2.cell? ⟨b, off + 1, none⟩ = some (.int .i64 803) := (hb2.cell hlt).trans c1.out
  replace hv := Lib.hid (ri_below hv.out hb2)
  replace hb2 := Lib.hid (below_on hb1.out hb2)
  clear hcell hv2
  go_wp2_with fail
  refine (sorted_of hS (c := true) (by decide +kernel) (by simp) hv.out (by unfold WfI; decide)).mono ?_
  rintro e w3 ⟨rfl, hb3⟩
  replace hv := Lib.hid (ri_below hv.out hb3)
  replace hb3 := Lib.hid (below_on hb2.out hb3)
  clear c1 c2
  go_wp2_with fail
  refine (marks_of hM (n := 2) (by decide +kernel) (by simp) hv.out (by unfold WfI; decide)).mono ?_
  rintro e w4 ⟨rfl, hb4⟩
  replace hb4 := Lib.hid (below_on hb3.out hb4)
  go_wp2_with fail
  go_ret
  exact ⟨rfl, hb4.out⟩

end Go.Proofs.YtkhjkodeolaemaaDoor
