/- Layer 3: Gcb. -/
import Derived.Test.YtconccgfhdmafaaPrP
namespace Go.Proofs.Ytconccgfhdmafaa
set_option linter.unusedSimpArgs false
set_option linter.unusedVariables false
open Go.RowKit Go.Lib

set_option maxRecDepth 100000 in
set_option maxHeartbeats 1600000 in
theorem listed_any (r : Int) (w : World) :
    Calls Try.prog 55 #[.int .i64 r] w fun e w' => e = .returned (.int .i64 (Prp.kndI r)) ∧ Below w.heap.size w w' := by
  unfold Prp.kndI
  go_enter Try.func55, Try.ntmps55
  go_upto_region 1 with (fail)
  refine wp_region_lit ?_
  refine wpList_runOps 55 (a' := { tmps := #[.int .i64 r, undef, .int .i64 0, undef, undef, undef, .int .i64 r, .agg #[.int .i64 0, .int .i64 9, .int .i64 3], .agg #[.int .i64 10, .int .i64 10, .int .i64 2], .agg #[.int .i64 11, .int .i64 12, .int .i64 3], .agg #[.int .i64 13, .int .i64 13, .int .i64 1], .agg #[.int .i64 14, .int .i64 31, .int .i64 3], .agg #[.int .i64 127, .int .i64 159, .int .i64 3], .agg #[.int .i64 169, .int .i64 169, .int .i64 14], .agg #[.int .i64 173, .int .i64 173, .int .i64 3], .agg #[.int .i64 174, .int .i64 174, .int .i64 14], .agg #[.int .i64 768, .int .i64 879, .int .i64 4], .agg #[.int .i64 1536, .int .i64 1541, .int .i64 7], .agg #[.int .i64 1564, .int .i64 1564, .int .i64 3], .agg #[.int .i64 1611, .int .i64 1631, .int .i64 4], .agg #[.int .i64 1757, .int .i64 1757, .int .i64 7], .agg #[.int .i64 2307, .int .i64 2307, .int .i64 8], .agg #[.int .i64 2363, .int .i64 2363, .int .i64 8], .agg #[.int .i64 2364, .int .i64 2364, .int .i64 4], .agg #[.int .i64 2366, .int .i64 2368, .int .i64 8], .agg #[.int .i64 2377, .int .i64 2380, .int .i64 8], .agg #[.int .i64 2381, .int .i64 2381, .int .i64 4], .agg #[.int .i64 4352, .int .i64 4447, .int .i64 9], .agg #[.int .i64 4448, .int .i64 4519, .int .i64 10], .agg #[.int .i64 4520, .int .i64 4607, .int .i64 11], .agg #[.int .i64 8203, .int .i64 8203, .int .i64 3], .agg #[.int .i64 8204, .int .i64 8204, .int .i64 4], .agg #[.int .i64 8205, .int .i64 8205, .int .i64 5], .agg #[.int .i64 8206, .int .i64 8207, .int .i64 3], .agg #[.int .i64 8232, .int .i64 8238, .int .i64 3], .agg #[.int .i64 8252, .int .i64 8252, .int .i64 14], .agg #[.int .i64 8265, .int .i64 8265, .int .i64 14], .agg #[.int .i64 8288, .int .i64 8303, .int .i64 3], .agg #[.int .i64 8400, .int .i64 8432, .int .i64 4], .agg #[.int .i64 8482, .int .i64 8482, .int .i64 14], .agg #[.int .i64 8505, .int .i64 8505, .int .i64 14], .agg #[.int .i64 8596, .int .i64 8601, .int .i64 14], .agg #[.int .i64 8986, .int .i64 8987, .int .i64 14], .agg #[.int .i64 9728, .int .i64 9732, .int .i64 14], .agg #[.int .i64 9745, .int .i64 9745, .int .i64 14], .agg #[.int .i64 9748, .int .i64 9749, .int .i64 14], .agg #[.int .i64 9786, .int .i64 9786, .int .i64 14], .agg #[.int .i64 9829, .int .i64 9829, .int .i64 14], .agg #[.int .i64 9889, .int .i64 9889, .int .i64 14], .agg #[.int .i64 9989, .int .i64 9989, .int .i64 14], .agg #[.int .i64 10084, .int .i64 10084, .int .i64 14], .agg #[.int .i64 12441, .int .i64 12442, .int .i64 4], .agg #[.int .i64 65024, .int .i64 65039, .int .i64 4], .agg #[.int .i64 65279, .int .i64 65279, .int .i64 3], .agg #[.int .i64 127462, .int .i64 127487, .int .i64 6], .agg #[.int .i64 127744, .int .i64 127994, .int .i64 14], .agg #[.int .i64 127995, .int .i64 127999, .int .i64 4], .agg #[.int .i64 128000, .int .i64 128591, .int .i64 14], .agg #[.int .i64 128640, .int .i64 128767, .int .i64 14], .agg #[.int .i64 129280, .int .i64 129535, .int .i64 14], .slice (some ⟨w.heap.size, 0, none⟩) 53 53, undef, undef, undef, undef, undef], defers := [] }) (w' := w.alloc (.cells (flat Prp.kinds).toArray 85)) (by kernel_rfl) ?_
  simp only [List.drop_succ_cons, List.drop_zero]
  go_wp2_with fail
  refine (find_any Prp.kinds Prp.sorted_kinds (by decide) _ r _ (rows_new w _ _ Prp.kinds rfl) 53 rfl).mono ?_
  rintro e w1 ⟨a, b, rfl, hb1⟩
  have hbel := Lib.hid (below_in hb1)
  clear hb1
  go_wp2_with fail
  go_ret
  exact ⟨rfl, hbel.out.trans ((below_new w1 _).mono hbel.out.size)⟩

set_option maxHeartbeats 800000 in
theorem gcb_any (r : Int) (w : World) :
    Calls Try.prog 52 #[.int .i64 r] w fun e w' => e = .returned (.int .i64 (Prp.gcbI r)) ∧ Below w.heap.size w w' := by
  unfold Prp.gcbI
  by_cases h : 0xAC00 ≤ r ∧ r ≤ 0xD7A3
  · simp only [if_pos h]
    obtain ⟨h1, h2⟩ := h
    have h1' : decide (r < 0xAC00) = false := by simp; omega
    have h2' : decide (0xD7A3 < r) = false := by simp; omega
    by_cases h3 : (r - 0xAC00) % 28 = 0
    · simp only [if_pos h3]
      go_enter Try.func52, Try.ntmps52
      go_wp2_with fail
      go_ret
      exact ⟨rfl, Below.refl _ _⟩
    · simp only [if_neg h3]
      have h3' : ((r - 0xAC00) % 28 == 0) = false := by simpa using h3
      go_enter Try.func52, Try.ntmps52
      go_wp2_with fail
      go_ret
      exact ⟨rfl, Below.refl _ _⟩
  · simp only [if_neg h]
    by_cases h1 : r < 0xAC00
    · clear h
      go_enter Try.func52, Try.ntmps52
      go_wp2_with fail
      refine (listed_any r _).mono ?_
      rintro e w1 ⟨rfl, hb1⟩
      replace hb1 := Lib.hid hb1
      go_wp2_with fail
      go_ret
      exact ⟨rfl, hb1.out⟩
    · have h1' : decide (r < 0xAC00) = false := by simp; omega
      have h2 : 0xD7A3 < r := by omega
      clear h
      go_enter Try.func52, Try.ntmps52
      go_wp2_with fail
      refine (listed_any r _).mono ?_
      rintro e w1 ⟨rfl, hb1⟩
      replace hb1 := Lib.hid hb1
      go_wp2_with fail
      go_ret
      exact ⟨rfl, hb1.out⟩
end Go.Proofs.Ytconccgfhdmafaa
