/- Layer 10: the document's example. -/
import Derived.Test.YtfmnecknfmgggaaGreatDoorFoS
namespace Go.Proofs.YtfmnecknfmgggaaGreatDoor
set_option linter.unusedSimpArgs false
set_option linter.unusedVariables false
open Go.RowKit Go.Lib
set_option maxHeartbeats 3200000 in
set_option maxRecDepth 100000 in
theorem awake10 (hL : LeftC10) (hA : AllC10) (w : World) :
    Calls Tryz.prog 5 #[] w fun e w' => e = .returned (.bool true) ∧ Below w.heap.size w w' := by
  have h1 := Lib.hid (fun V W h => all_of10 hA (v := V) (l := [65, 173, 778]) (m := [229]) (w := W) (by decide +kernel) (by simp) (by unfold WfI; decide) h)
  have h2 := Lib.hid (fun V W h => left_of10 hL (v := V) (l := [65, 173, 778]) (m := [97, 778]) (w := W) (by decide +kernel) (by simp) (by unfold WfI; decide) h)
  clear hL hA
  go_enter Tryz.func5, Tryz.ntmps5
  have l0 := Lib.hid (ri_of_own (ownI_lit w.heap.size w [65, 173, 778] #[.int .i64 65, .int .i64 173, .int .i64 778] w.heap.size 3 rfl (Nat.le_refl _) rfl rfl (by unfold maxLen; omega)))
  have b0 := Lib.hid (below_new w (.cells #[.int .i64 65, .int .i64 173, .int .i64 778] 3))
  go_wp2_with fail
  refine (h1.out _ _ l0.out).mono ?_
  rintro e w1 ⟨v_a, rfl, a, q1⟩
  obtain ⟨p_a, c_a, rfl⟩ := ri_form a
  replace a := Lib.hid a
  replace l0 := Lib.hid (ri_below l0.out q1)
  have b1 := Lib.hid (below_on b0.out q1)
  clear q1
  clear l0
  go_wp2_with fail
  have n2 := below_new w1 (.cells #[.int .i64 65, .int .i64 173, .int .i64 778] 3)
  have l1 := Lib.hid (ri_of_own (ownI_lit w1.heap.size w1 [65, 173, 778] #[.int .i64 65, .int .i64 173, .int .i64 778] w1.heap.size 3 rfl (Nat.le_refl _) rfl rfl (by unfold maxLen; omega)))
  replace a := Lib.hid (ri_below a.out n2)
  replace b1 := Lib.hid (b1.out.alloc b1.out.size (.cells #[.int .i64 65, .int .i64 173, .int .i64 778] 3))
  clear n2
  refine (h2.out _ _ l1.out).mono ?_
  rintro e w2 ⟨v_x, rfl, x, q2⟩
  obtain ⟨p_x, c_x, rfl⟩ := ri_form x
  replace x := Lib.hid x
  replace a := Lib.hid (ri_below a.out q2)
  replace l1 := Lib.hid (ri_below l1.out q2)
  have b2 := Lib.hid (below_on b1.out q2)
  clear q2
  obtain ⟨gc, oc, rfl, hlc, hcc⟩ := ri_at a.out (by simp)
  have c0 : w2.cell? ⟨gc, oc, none⟩ = some (.int .i64 229) := hcc 0 (by simp)
  obtain ⟨gx, ox, rfl, hlx, hcx⟩ := ri_at x.out (by simp)
  have x0 : w2.cell? ⟨gx, ox, none⟩ = some (.int .i64 97) := hcx 0 (by simp)
  clear hcc hcx
  go_wp2_with fail
  go_ret
  exact ⟨rfl, b2.out⟩

end Go.Proofs.YtfmnecknfmgggaaGreatDoor
