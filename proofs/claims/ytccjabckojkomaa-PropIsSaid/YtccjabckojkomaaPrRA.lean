/- Layer 3: the document's answers. -/
import Derived.Test.YtccjabckojkomaaPrR
import Derived.Test.YtccjabckojkomaaPrR1
import Derived.Test.YtccjabckojkomaaPrR2
import Derived.Test.YtccjabckojkomaaPrR3
namespace Go.Proofs.Ytccjabckojkomaa
open Go.RowKit Go.Lib

theorem rccc_any (r : Int) (w : World) :
    Calls Try.prog 10 #[.int .i64 r] w fun e w' => e = .returned (.int .i64 (Prp.cccI r)) ∧ Below w.heap.size w w' := by
  unfold Prp.cccI
  go_enter Try.func10, Try.ntmps10
  go_wp2_with fail
  refine (rclasses_any _).mono ?_
  rintro e w1 ⟨rfl, hw⟩
  replace hw := Lib.hid hw
  go_wp2_with fail
  refine (rfind_any Prp.classes (by decide) w.heap.size r w1 (by rw [hw.out]; exact rows_new w _ _ Prp.classes rfl) 42 rfl).mono ?_
  rintro e w2 ⟨rfl, rfl⟩
  go_wp2_with fail
  go_ret
  exact ⟨rfl, by rw [hw.out]; exact below_new _ _⟩

theorem rdrops_any (r : Int) (w : World) :
    Calls Try.prog 14 #[.int .i64 r] w fun e w' => e = .returned (.bool (Prp.drpB r)) ∧ Below w.heap.size w w' := by
  unfold Prp.drpB
  go_enter Try.func14, Try.ntmps14
  go_wp2_with fail
  refine (rdropped_any _).mono ?_
  rintro e w1 ⟨rfl, hw⟩
  replace hw := Lib.hid hw
  go_wp2_with fail
  refine (rfind_any Prp.dropped (by decide) w.heap.size r w1 (by rw [hw.out]; exact rows_new w _ _ Prp.dropped rfl) 15 rfl).mono ?_
  rintro e w2 ⟨rfl, rfl⟩
  go_wp2_with fail
  go_ret
  exact ⟨rfl, by rw [hw.out]; exact below_new _ _⟩

theorem rmark_any (r : Int) (w : World) :
    Calls Try.prog 16 #[.int .i64 r] w fun e w' => e = .returned (.bool (Prp.mrkB r)) ∧ Below w.heap.size w w' := by
  unfold Prp.mrkB
  go_enter Try.func16, Try.ntmps16
  go_wp2_with fail
  refine (rccc_any r _).mono ?_
  rintro e w1 ⟨rfl, hb1⟩
  replace hb1 := Lib.hid hb1
  go_wp2_with fail
  go_ret
  exact ⟨rfl, hb1.out⟩

set_option maxHeartbeats 800000 in
theorem rgcb_any (r : Int) (w : World) :
    Calls Try.prog 12 #[.int .i64 r] w fun e w' => e = .returned (.int .i64 (Prp.gcbI r)) ∧ Below w.heap.size w w' := by
  unfold Prp.gcbI
  by_cases h : 0xAC00 ≤ r ∧ r ≤ 0xD7A3
  · simp only [if_pos h]
    obtain ⟨h1, h2⟩ := h
    by_cases h3 : (r - 0xAC00) % 28 = 0
    · simp only [if_pos h3]
      go_enter Try.func12, Try.ntmps12
      go_wp2_with fail
      go_ret
      exact ⟨rfl, Below.refl _ _⟩
    · simp only [if_neg h3]
      have h3' : ((r - 0xAC00) % 28 == 0) = false := by simpa using h3
      go_enter Try.func12, Try.ntmps12
      go_wp2_with fail
      go_ret
      exact ⟨rfl, Below.refl _ _⟩
  · simp only [if_neg h]
    by_cases h1 : 0xAC00 ≤ r
    · have h2 : decide (r ≤ 0xD7A3) = false := by simp; omega
      clear h
      unfold Prp.kndI
      go_enter Try.func12, Try.ntmps12
      go_wp2_with fail
      refine (rkinds_any _).mono ?_
      rintro e w1 ⟨rfl, hw⟩
      replace hw := Lib.hid hw
      go_wp2_with fail
      refine (rfind_any Prp.kinds (by decide) w.heap.size r w1 (by rw [hw.out]; exact rows_new w _ _ Prp.kinds rfl) 53 rfl).mono ?_
      rintro e w2 ⟨rfl, rfl⟩
      go_wp2_with fail
      go_ret
      exact ⟨rfl, by rw [hw.out]; exact below_new _ _⟩
    · have h1' : decide (0xAC00 ≤ r) = false := by simp; omega
      clear h
      unfold Prp.kndI
      go_enter Try.func12, Try.ntmps12
      go_wp2_with fail
      refine (rkinds_any _).mono ?_
      rintro e w1 ⟨rfl, hw⟩
      replace hw := Lib.hid hw
      go_wp2_with fail
      refine (rfind_any Prp.kinds (by decide) w.heap.size r w1 (by rw [hw.out]; exact rows_new w _ _ Prp.kinds rfl) 53 rfl).mono ?_
      rintro e w2 ⟨rfl, rfl⟩
      go_wp2_with fail
      go_ret
      exact ⟨rfl, by rw [hw.out]; exact below_new _ _⟩
end Go.Proofs.Ytccjabckojkomaa
