/- Layer 3: the document's Gcb. -/
import Derived.Test.YtbkgjbpnogcjeaaPrRP
import Derived.Test.YtbkgjbpnogcjeaaPrR2
namespace Go.Proofs.Ytbkgjbpnogcjeaa
set_option linter.unusedSimpArgs false
set_option linter.unusedVariables false
open Go.RowKit Go.Lib

set_option maxHeartbeats 800000 in
theorem rgcb_any (r : Int) (w : World) :
    Calls Try.prog 34 #[.int .i64 r] w fun e w' => e = .returned (.int .i64 (Prp.gcbI r)) ∧ Below w.heap.size w w' := by
  unfold Prp.gcbI
  by_cases h : 0xAC00 ≤ r ∧ r ≤ 0xD7A3
  · simp only [if_pos h]
    obtain ⟨h1, h2⟩ := h
    by_cases h3 : (r - 0xAC00) % 28 = 0
    · simp only [if_pos h3]
      go_enter Try.func34, Try.ntmps34
      go_wp2_with fail
      go_ret
      exact ⟨rfl, Below.refl _ _⟩
    · simp only [if_neg h3]
      have h3' : ((r - 0xAC00) % 28 == 0) = false := by simpa using h3
      go_enter Try.func34, Try.ntmps34
      go_wp2_with fail
      go_ret
      exact ⟨rfl, Below.refl _ _⟩
  · simp only [if_neg h]
    by_cases h1 : 0xAC00 ≤ r
    · have h2 : decide (r ≤ 0xD7A3) = false := by simp; omega
      clear h
      unfold Prp.kndI
      go_enter Try.func34, Try.ntmps34
      go_wp2_with fail
      refine (rkinds_any _).mono ?_
      rintro e w1 ⟨rfl, hw⟩
      replace hw := Lib.hid hw
      go_wp2_with fail
      refine (rspan_any Prp.kinds (by decide) w.heap.size r w1 (by rw [hw.out]; exact rows_new w _ _ Prp.kinds rfl) 53 rfl).mono ?_
      rintro e w2 ⟨rfl, rfl⟩
      go_wp2_with fail
      go_ret
      exact ⟨rfl, by rw [hw.out]; exact below_new _ _⟩
    · have h1' : decide (0xAC00 ≤ r) = false := by simp; omega
      clear h
      unfold Prp.kndI
      go_enter Try.func34, Try.ntmps34
      go_wp2_with fail
      refine (rkinds_any _).mono ?_
      rintro e w1 ⟨rfl, hw⟩
      replace hw := Lib.hid hw
      go_wp2_with fail
      refine (rspan_any Prp.kinds (by decide) w.heap.size r w1 (by rw [hw.out]; exact rows_new w _ _ Prp.kinds rfl) 53 rfl).mono ?_
      rintro e w2 ⟨rfl, rfl⟩
      go_wp2_with fail
      go_ret
      exact ⟨rfl, by rw [hw.out]; exact below_new _ _⟩

end Go.Proofs.Ytbkgjbpnogcjeaa
