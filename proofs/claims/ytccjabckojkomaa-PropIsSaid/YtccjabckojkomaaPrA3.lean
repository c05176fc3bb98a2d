/- Layer 3: Gcb. -/
import Derived.Test.YtccjabckojkomaaPrA2
namespace Go.Proofs.Ytccjabckojkomaa
open Go.RowKit Go.Lib

set_option maxRecDepth 100000 in
set_option maxHeartbeats 1600000 in
theorem listed_any (r : Int) (w : World) :
    Calls Try.prog 21 #[.int .i64 r] w fun e w' => e = .returned (.int .i64 (Prp.kndI r)) ∧ Below w.heap.size w w' := by
  unfold Prp.kndI
  go_enter Try.func21, Try.ntmps21
  go_wp2_with fail
  refine wp_ok (v := .slice (some ⟨w.heap.size, 0, none⟩) 53 53) (w' := w.alloc (.cells (flat Prp.kinds).toArray 26)) (by kernel_rfl) ?_
  go_wp2_with fail
  refine (find_any Prp.kinds Prp.sorted_kinds (by decide) _ r _ (rows_new w _ _ Prp.kinds rfl) 53 rfl).mono ?_
  rintro e w1 ⟨a, b, rfl, hb1⟩
  have hbel := Lib.hid (below_in hb1)
  clear hb1
  go_wp2_with fail
  go_ret
  exact ⟨rfl, hbel.out.trans ((below_new w1 _).mono hbel.out.size)⟩

set_option maxHeartbeats 800000 in
theorem gcb_any (r : Int) (w : World) :
    Calls Try.prog 11 #[.int .i64 r] w fun e w' => e = .returned (.int .i64 (Prp.gcbI r)) ∧ Below w.heap.size w w' := by
  unfold Prp.gcbI
  by_cases h : 0xAC00 ≤ r ∧ r ≤ 0xD7A3
  · simp only [if_pos h]
    obtain ⟨h1, h2⟩ := h
    have h1' : decide (r < 0xAC00) = false := by simp; omega
    have h2' : decide (0xD7A3 < r) = false := by simp; omega
    by_cases h3 : (r - 0xAC00) % 28 = 0
    · simp only [if_pos h3]
      go_enter Try.func11, Try.ntmps11
      go_wp2_with fail
      go_ret
      exact ⟨rfl, Below.refl _ _⟩
    · simp only [if_neg h3]
      have h3' : ((r - 0xAC00) % 28 == 0) = false := by simpa using h3
      go_enter Try.func11, Try.ntmps11
      go_wp2_with fail
      go_ret
      exact ⟨rfl, Below.refl _ _⟩
  · simp only [if_neg h]
    by_cases h1 : r < 0xAC00
    · clear h
      go_enter Try.func11, Try.ntmps11
      go_wp2_with fail
      refine (listed_any r _).mono ?_
      rintro e w1 ⟨rfl, hb1⟩
      replace hb1 := Lib.hid hb1
      go_wp2_with fail
      go_ret
      exact ⟨rfl, hb1.out⟩
    · have h1' : decide (r < 0xAC00) = false := by simp; omega
      have h2 : 0xD7A3 < r := by omega
      clear h
      go_enter Try.func11, Try.ntmps11
      go_wp2_with fail
      refine (listed_any r _).mono ?_
      rintro e w1 ⟨rfl, hb1⟩
      replace hb1 := Lib.hid hb1
      go_wp2_with fail
      go_ret
      exact ⟨rfl, hb1.out⟩
end Go.Proofs.Ytccjabckojkomaa
