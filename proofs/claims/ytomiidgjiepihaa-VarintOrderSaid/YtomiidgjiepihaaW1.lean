/- The walks of layer 2's statements: VarintOrder, VarintDigits. -/
import Derived.Test.YtomiidgjiepihaaC3
namespace Go.Proofs.Ytomiidgjiepihaa
open Go.RowKit Go.Lib

set_option maxHeartbeats 1600000 in
theorem varintOrder_walk (a b : Int) (w : World) (_ : -9223372036854775808 ≤ a ∧ a ≤ 9223372036854775807) (_ : -9223372036854775808 ≤ b ∧ b ≤ 9223372036854775807) :
    Calls Try.prog 6 #[.int .i64 a, .int .i64 b] w fun e w' => e = .returned (.bool true) ∧ Below w.heap.size w w' := by
  obtain ⟨x, hx, hxa⟩ : ∃ x : Nat, x ≤ 268435455 ∧ bits .and .i64 a 268435455 = (x : Int) := ⟨(a % 268435456).toNat, by omega, by rw [and28]; omega⟩
  obtain ⟨y, hy, hyb⟩ : ∃ y : Nat, y ≤ 268435455 ∧ bits .and .i64 b 268435455 = (y : Int) := ⟨(b % 268435456).toNat, by omega, by rw [and28]; omega⟩
  obtain ⟨sx, hsx⟩ : ∃ s : Int, ((Var.putN x).length : Int) = s := ⟨_, rfl⟩
  obtain ⟨sy, hsy⟩ : ∃ s : Int, ((Var.putN y).length : Int) = s := ⟨_, rfl⟩
  have hcx : ∀ W, Calls Try.prog 13 #[.int .i64 (x : Int)] W fun e w' => e = .returned (.int .i64 sx) ∧ W = w' := fun W => by rw [← hsx, ← putI_yes hx]; exact size_any _ _
  have hcy : ∀ W, Calls Try.prog 13 #[.int .i64 (y : Int)] W fun e w' => e = .returned (.int .i64 sy) ∧ W = w' := fun W => by rw [← hsy, ← putI_yes hy]; exact size_any _ _
  have hpos : 1 ≤ sx := by have := Var.put_len_pos x; omega
  replace hcx := Lib.hid hcx
  replace hcy := Lib.hid hcy
  have hord : x ≤ y → sx ≤ sy := fun h => by have := Var.put_len_mono y x h; omega
  have hmain : (x < 128 ∧ sx = 1) ∨ (128 ≤ x ∧ ∃ sz : Int, 1 ≤ sz ∧ sz ≤ 4 ∧ sx = sz + 1 ∧ ((Var.putN (x / 128)).length : Int) = sz) := by
    rcases Nat.lt_or_ge x 128 with h | h
    · exact .inl ⟨h, by rw [← hsx, Var.put_len1 h]; rfl⟩
    · exact .inr ⟨h, _, by have := Var.put_len_pos (x / 128); omega, by have := Var.put_len_le (x / 128) (by omega); omega, by rw [← hsx, Var.put_lenS h]; omega, rfl⟩
  have hcz : ∀ W, Calls Try.prog 13 #[.int .i64 ((x : Int) / 128)] W fun e w' => e = .returned (.int .i64 ((Var.putN (x / 128)).length : Int)) ∧ W = w' := fun W => by
    rw [← putI_yes (by omega), show (x : Int) / 128 = ((x / 128 : Nat) : Int) by omega]
    exact size_any _ _
  have hox : (x ≤ y ∧ sx ≤ sy) ∨ ¬ x ≤ y := by
    by_cases h : x ≤ y
    · exact .inl ⟨h, hord h⟩
    · exact .inr h
  clear hsx hsy hord
  rcases hmain with ⟨hs, rfl⟩ | ⟨hs, sz, hz1, hz4, rfl, hsz⟩
  · replace hcz := Lib.hid hcz
    have hs' : (x : Int) / 128 = 0 := by omega
    clear hcz hs
    rcases hox with ⟨hxy, ho⟩ | hxy
    · have hxy' : (x : Int) ≤ (y : Int) := by omega
      go_enter Try.func6, Try.ntmps6
      go_wp2_with fail
      refine (awake_any w).mono ?_
      rintro e w1 ⟨rfl, hb1⟩
      replace hb1 := Lib.hid hb1
      go_wp2_with (go_at_call 13; first | (refine (hcx.out _).mono ?_; rintro e w2 ⟨rfl, rfl⟩) | (refine (hcy.out _).mono ?_; rintro e w2 ⟨rfl, rfl⟩))
      go_ret
      exact ⟨rfl, hb1.out⟩
    · have hxy' : decide ((x : Int) ≤ (y : Int)) = false := by simp; omega
      go_enter Try.func6, Try.ntmps6
      go_wp2_with fail
      refine (awake_any w).mono ?_
      rintro e w1 ⟨rfl, hb1⟩
      replace hb1 := Lib.hid hb1
      go_wp2_with (go_at_call 13; first | (refine (hcx.out _).mono ?_; rintro e w2 ⟨rfl, rfl⟩) | (refine (hcy.out _).mono ?_; rintro e w2 ⟨rfl, rfl⟩))
      go_ret
      exact ⟨rfl, hb1.out⟩
  · rw [hsz] at hcz
    replace hcz := Lib.hid hcz
    have hs' : (128 : Int) ≤ (x : Int) := by omega
    replace hsz := Lib.hid hsz
    rcases hox with ⟨hxy, ho⟩ | hxy
    · have hxy' : (x : Int) ≤ (y : Int) := by omega
      go_enter Try.func6, Try.ntmps6
      go_wp2_with fail
      refine (awake_any w).mono ?_
      rintro e w1 ⟨rfl, hb1⟩
      replace hb1 := Lib.hid hb1
      go_wp2_with (go_at_call 13; first | (refine (hcx.out _).mono ?_; rintro e w2 ⟨rfl, rfl⟩) | (refine (hcy.out _).mono ?_; rintro e w2 ⟨rfl, rfl⟩) | (refine (hcz.out _).mono ?_; rintro e w2 ⟨rfl, rfl⟩))
      go_ret
      exact ⟨rfl, hb1.out⟩
    · have hxy' : decide ((x : Int) ≤ (y : Int)) = false := by simp; omega
      go_enter Try.func6, Try.ntmps6
      go_wp2_with fail
      refine (awake_any w).mono ?_
      rintro e w1 ⟨rfl, hb1⟩
      replace hb1 := Lib.hid hb1
      go_wp2_with (go_at_call 13; first | (refine (hcx.out _).mono ?_; rintro e w2 ⟨rfl, rfl⟩) | (refine (hcy.out _).mono ?_; rintro e w2 ⟨rfl, rfl⟩) | (refine (hcz.out _).mono ?_; rintro e w2 ⟨rfl, rfl⟩))
      go_ret
      exact ⟨rfl, hb1.out⟩
end Go.Proofs.Ytomiidgjiepihaa
