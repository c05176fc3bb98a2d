/- Layer 3: the walks of PropSyllables, PropAscii. -/
import Derived.Test.YtccjabckojkomaaPrW0
import Derived.Test.YtccjabckojkomaaK4
namespace Go.Proofs.Ytccjabckojkomaa
open Go.RowKit Go.Lib

set_option maxHeartbeats 800000 in
theorem propSyllables_walk (n : Int) (w : World) (_ : -9223372036854775808 ≤ n ∧ n ≤ 9223372036854775807) :
    Calls Try.prog 5 #[.int .i64 n] w fun e w' => e = .returned (.bool true) ∧ Below w.heap.size w w' := by
  obtain ⟨y, hy0, hy1, hyb⟩ : ∃ y : Int, 0 ≤ y ∧ y < 16777216 ∧ bits .and .i64 n 16777215 = y := ⟨n % 16777216, by omega, by omega, and24 n⟩
  obtain ⟨k, hk0, hk1, hkb⟩ : ∃ k : Int, 0 ≤ k ∧ k < 11172 ∧ y % 11172 = k := ⟨y % 11172, by omega, by omega, rfl⟩
  obtain ⟨h1, h2, h3⟩ := Prp.syl (r := 0xAC00 + k) (by omega) (by omega)
  rw [show 0xAC00 + k - 0xAC00 = k by omega] at h3
  have hc := Lib.hid (ccc_is _ 0 h1)
  have hd := Lib.hid (drops_is _ false h2)
  have hm := Lib.hid (mark_is _ false (show Prp.mrkB (0xAC00 + k) = false by unfold Prp.mrkB; rw [h1]; rfl))
  by_cases h4 : k % 28 = 0
  case' pos => have hg := Lib.hid (gcb_is _ 12 (h3.trans (if_pos h4)))
  case' neg =>
    have hg := Lib.hid (gcb_is _ 13 (h3.trans (if_neg h4)))
    have h4' : (k % 28 == 0) = false := by simpa using h4
    clear h4
  all_goals
    clear h1 h2 h3
    go_enter Try.func5, Try.ntmps5
    go_wp2_with fail
    refine (awake_any w).mono ?_
    rintro e w1 ⟨rfl, hb1⟩
    replace hb1 := Lib.hid hb1
    go_wp2_with fail
    refine (hg.out _).mono ?_
    rintro e w2 ⟨rfl, hb2⟩
    replace hb2 := Lib.hid (below_trans hb1.out hb2)
    go_wp2_with fail
    refine (hm.out _).mono ?_
    rintro e w3 ⟨rfl, hb3⟩
    replace hb3 := Lib.hid (below_trans hb2.out hb3)
    go_wp2_with fail
    refine (hd.out _).mono ?_
    rintro e w4 ⟨rfl, hb4⟩
    replace hb4 := Lib.hid (below_trans hb3.out hb4)
    go_wp2_with fail
    refine (hc.out _).mono ?_
    rintro e w5 ⟨rfl, hb5⟩
    replace hb5 := Lib.hid (below_trans hb4.out hb5)
    go_wp2_with fail
    go_ret
    exact ⟨rfl, hb5.out⟩

set_option maxHeartbeats 1600000 in
theorem propAscii_walk (r : Int) (w : World) (_ : -9223372036854775808 ≤ r ∧ r ≤ 9223372036854775807) :
    Calls Try.prog 6 #[.int .i64 r] w fun e w' => e = .returned (.bool true) ∧ Below w.heap.size w w' := by
  obtain ⟨k, hk0, hk1, hkb⟩ : ∃ k : Int, 0 ≤ k ∧ k < 128 ∧ bits .and .i64 r 127 = k := ⟨r % 128, by omega, by omega, and127 r⟩
  obtain ⟨h1, h2, h3⟩ := Prp.ascii k hk0 hk1
  have hc := Lib.hid (ccc_is _ 0 h1)
  have hd := Lib.hid (drops_is _ false h2)
  have hm := Lib.hid (mark_is _ false (show Prp.mrkB k = false by unfold Prp.mrkB; rw [h1]; rfl))
  unfold Prp.asciiKind at h3
  obtain ⟨g, hg0, t1, t2, t3, t4, hgk⟩ : ∃ g : Int, Prp.gcbI k = g ∧ ((k < 32 ∧ decide (k < 32) = true) ∨ (¬ k < 32 ∧ decide (k < 32) = false)) ∧ ((k = 127 ∧ (k == 127) = true) ∨ (k ≠ 127 ∧ (k == 127) = false)) ∧ ((k = 13 ∧ (k == 13) = true) ∨ (k ≠ 13 ∧ (k == 13) = false)) ∧ ((k = 10 ∧ (k == 10) = true) ∨ (k ≠ 10 ∧ (k == 10) = false)) ∧ (if k = 10 then (2:Int) else if k = 13 then 1 else if k < 32 ∨ k = 127 then 3 else 0) = g := by
    refine ⟨_, rfl, ?_, ?_, ?_, ?_, h3.symm⟩ <;> simp <;> omega
  have hg := Lib.hid (gcb_is _ g hg0)
  clear h1 h2 h3 hg0
  have hcase : (g = 2 ∧ k = 10) ∨ (g = 1 ∧ k = 13) ∨ (g = 3 ∧ k ≠ 10 ∧ k ≠ 13 ∧ k < 32) ∨ (g = 3 ∧ k = 127) ∨ (g = 0 ∧ k ≠ 10 ∧ k ≠ 13 ∧ ¬ k < 32 ∧ k ≠ 127) := by
    split at hgk
    · omega
    · split at hgk
      · omega
      · split at hgk <;> omega
  clear hgk t1 t2 t3 t4
  rcases hcase with ⟨rfl, rfl⟩ | ⟨rfl, rfl⟩ | ⟨rfl, h1, h2, h3⟩ | ⟨rfl, rfl⟩ | ⟨rfl, h1, h2, h3, h4⟩
  case' inr.inr.inl =>
    have t3 : (k == 13) = false := by simpa using h2
    have t4 : (k == 10) = false := by simpa using h1
    clear h1 h2
  case' inr.inr.inr.inr =>
    have t1 : decide (k < 32) = false := by simpa using h3
    have t2 : (k == 127) = false := by simpa using h4
    have t3 : (k == 13) = false := by simpa using h2
    have t4 : (k == 10) = false := by simpa using h1
    clear h1 h2 h3 h4
  all_goals
    go_enter Try.func6, Try.ntmps6
    go_wp2_with fail
    refine (awake_any w).mono ?_
    rintro e w1 ⟨rfl, hb1⟩
    replace hb1 := Lib.hid hb1
    go_wp2_with fail
    refine (hg.out _).mono ?_
    rintro e w2 ⟨rfl, hb2⟩
    replace hb2 := Lib.hid (below_trans hb1.out hb2)
    go_wp2_with fail
    refine (hm.out _).mono ?_
    rintro e w3 ⟨rfl, hb3⟩
    replace hb3 := Lib.hid (below_trans hb2.out hb3)
    go_wp2_with fail
    refine (hc.out _).mono ?_
    rintro e w4 ⟨rfl, hb4⟩
    replace hb4 := Lib.hid (below_trans hb3.out hb4)
    go_wp2_with fail
    refine (hd.out _).mono ?_
    rintro e w5 ⟨rfl, hb5⟩
    replace hb5 := Lib.hid (below_trans hb4.out hb5)
    go_wp2_with fail
    go_ret
    exact ⟨rfl, hb5.out⟩
end Go.Proofs.Ytccjabckojkomaa
