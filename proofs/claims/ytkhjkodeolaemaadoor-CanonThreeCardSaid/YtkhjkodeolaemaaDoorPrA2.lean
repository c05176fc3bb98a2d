/- Layer 3: a table that was just made; Ccc and Mark. -/
import Derived.Test.YtkhjkodeolaemaaDoorPrA1
import Derived.Test.YtkhjkodeolaemaaDoorK6
namespace Go.Proofs.YtkhjkodeolaemaaDoor
set_option linter.unusedSimpArgs false
set_option linter.unusedVariables false
open Go.RowKit Go.Lib

set_option maxRecDepth 100000 in
set_option maxHeartbeats 1600000 in
theorem ccc_any (r : Int) (w : World) :
    Calls Tryd.prog 19 #[.int .i64 r] w fun e w' => e = .returned (.int .i64 (Prp.cccI r)) ∧ Below w.heap.size w w' := by
  unfold Prp.cccI
  go_enter Tryd.func19, Tryd.ntmps19
  go_upto_region 1 with (fail)
  refine wp_region_lit ?_
  refine wpList_runOps 44 (a' := { tmps := #[.int .i64 r, undef, .int .i64 0, undef, undef, undef, .int .i64 r, .agg #[.int .i64 768, .int .i64 788, .int .i64 230], .agg #[.int .i64 789, .int .i64 789, .int .i64 232], .agg #[.int .i64 790, .int .i64 793, .int .i64 220], .agg #[.int .i64 794, .int .i64 794, .int .i64 232], .agg #[.int .i64 795, .int .i64 795, .int .i64 216], .agg #[.int .i64 796, .int .i64 800, .int .i64 220], .agg #[.int .i64 801, .int .i64 802, .int .i64 202], .agg #[.int .i64 803, .int .i64 806, .int .i64 220], .agg #[.int .i64 807, .int .i64 808, .int .i64 202], .agg #[.int .i64 809, .int .i64 819, .int .i64 220], .agg #[.int .i64 820, .int .i64 824, .int .i64 1], .agg #[.int .i64 825, .int .i64 828, .int .i64 220], .agg #[.int .i64 829, .int .i64 836, .int .i64 230], .agg #[.int .i64 837, .int .i64 837, .int .i64 240], .agg #[.int .i64 838, .int .i64 838, .int .i64 230], .agg #[.int .i64 839, .int .i64 841, .int .i64 220], .agg #[.int .i64 842, .int .i64 844, .int .i64 230], .agg #[.int .i64 845, .int .i64 846, .int .i64 220], .agg #[.int .i64 848, .int .i64 850, .int .i64 230], .agg #[.int .i64 851, .int .i64 854, .int .i64 220], .agg #[.int .i64 855, .int .i64 855, .int .i64 230], .agg #[.int .i64 856, .int .i64 856, .int .i64 232], .agg #[.int .i64 857, .int .i64 858, .int .i64 220], .agg #[.int .i64 859, .int .i64 859, .int .i64 230], .agg #[.int .i64 860, .int .i64 860, .int .i64 233], .agg #[.int .i64 861, .int .i64 862, .int .i64 234], .agg #[.int .i64 863, .int .i64 863, .int .i64 233], .agg #[.int .i64 864, .int .i64 865, .int .i64 234], .agg #[.int .i64 866, .int .i64 866, .int .i64 233], .agg #[.int .i64 867, .int .i64 879, .int .i64 230], .agg #[.int .i64 1611, .int .i64 1611, .int .i64 27], .agg #[.int .i64 1612, .int .i64 1612, .int .i64 28], .agg #[.int .i64 1613, .int .i64 1613, .int .i64 29], .agg #[.int .i64 1614, .int .i64 1614, .int .i64 30], .agg #[.int .i64 1615, .int .i64 1615, .int .i64 31], .agg #[.int .i64 1616, .int .i64 1616, .int .i64 32], .agg #[.int .i64 1617, .int .i64 1617, .int .i64 33], .agg #[.int .i64 1618, .int .i64 1618, .int .i64 34], .agg #[.int .i64 2364, .int .i64 2364, .int .i64 7], .agg #[.int .i64 2381, .int .i64 2381, .int .i64 9], .agg #[.int .i64 8400, .int .i64 8401, .int .i64 230], .agg #[.int .i64 12441, .int .i64 12442, .int .i64 8], .slice (some ⟨w.heap.size, 0, none⟩) 42 42, undef, undef, undef, undef, undef], defers := [] }) (w' := w.alloc (.cells (flat Prp.classes).toArray 47)) (by kernel_rfl) ?_
  simp only [List.drop_succ_cons, List.drop_zero]
  go_wp2_with fail
  refine (find_any Prp.classes Prp.sorted_classes (by decide) _ r _ (rows_new w _ _ Prp.classes rfl) 42 rfl).mono ?_
  rintro e w1 ⟨a, b, rfl, hb1⟩
  have hbel := Lib.hid (below_in hb1)
  clear hb1
  go_wp2_with fail
  go_ret
  exact ⟨rfl, hbel.out.trans ((below_new w1 _).mono hbel.out.size)⟩

theorem mark_any (r : Int) (w : World) :
    Calls Tryd.prog 18 #[.int .i64 r] w fun e w' => e = .returned (.bool (Prp.mrkB r)) ∧ Below w.heap.size w w' := by
  unfold Prp.mrkB
  go_enter Tryd.func18, Tryd.ntmps18
  go_wp2_with fail
  refine (ccc_any r _).mono ?_
  rintro e w1 ⟨rfl, hb1⟩
  replace hb1 := Lib.hid hb1
  go_wp2_with fail
  go_ret
  exact ⟨rfl, hb1.out⟩
end Go.Proofs.YtkhjkodeolaemaaDoor
