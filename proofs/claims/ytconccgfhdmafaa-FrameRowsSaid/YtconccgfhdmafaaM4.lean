/- Layer 1, plain mathematics: beginnings by their numbers; the forms of scalar values. -/
import Derived.Test.YtconccgfhdmafaaM3
namespace Go.Proofs.Ytconccgfhdmafaa
set_option linter.unusedSimpArgs false
set_option linter.unusedVariables false
namespace Dec
open Go.Lib

theorem ft_le1 (x : Nat) : firstT x % 8 ≤ 1 ↔ ¬ (194 ≤ x ∧ x ≤ 244) := by
  unfold firstT
  repeat' split
  all_goals omega

theorem ft_le2 (x : Nat) : firstT x % 8 ≤ 2 ↔ ¬ (224 ≤ x ∧ x ≤ 244) := by
  unfold firstT
  repeat' split
  all_goals omega

theorem ft_le3 (x : Nat) : firstT x % 8 ≤ 3 ↔ ¬ (240 ≤ x ∧ x ≤ 244) := by
  unfold firstT
  repeat' split
  all_goals omega

theorem ft_acc (x y : Nat) (h : 224 ≤ x ∧ x ≤ 244) : (y < accLo (firstT x / 16) ∨ accHi (firstT x / 16) < y) ↔
    ¬ ((x = 224 ∧ 160 ≤ y ∧ y ≤ 191) ∨ (225 ≤ x ∧ x ≤ 239 ∧ x ≠ 237 ∧ 128 ≤ y ∧ y ≤ 191) ∨ (x = 237 ∧ 128 ≤ y ∧ y ≤ 159) ∨ (x = 240 ∧ 144 ≤ y ∧ y ≤ 191) ∨ (241 ≤ x ∧ x ≤ 243 ∧ 128 ≤ y ∧ y ≤ 191) ∨ (x = 244 ∧ 128 ≤ y ∧ y ≤ 143)) := by
  rcases (by omega : x = 224 ∨ (225 ≤ x ∧ x < 237) ∨ x = 237 ∨ (238 ≤ x ∧ x < 240) ∨ x = 240 ∨ (241 ≤ x ∧ x < 244) ∨ x = 244) with h1 | h1 | h1 | h1 | h1 | h1 | h1
  · rw [firstT_E0 h1, show accLo (19 / 16) = 160 from rfl, show accHi (19 / 16) = 191 from rfl]; omega
  · rw [firstT_E1 (.inl h1), show accLo (3 / 16) = 128 from rfl, show accHi (3 / 16) = 191 from rfl]; omega
  · rw [firstT_ED h1, show accLo (35 / 16) = 128 from rfl, show accHi (35 / 16) = 159 from rfl]; omega
  · rw [firstT_E1 (.inr h1), show accLo (3 / 16) = 128 from rfl, show accHi (3 / 16) = 191 from rfl]; omega
  · rw [firstT_F0 h1, show accLo (52 / 16) = 144 from rfl, show accHi (52 / 16) = 191 from rfl]; omega
  · rw [firstT_F1 h1, show accLo (4 / 16) = 128 from rfl, show accHi (4 / 16) = 191 from rfl]; omega
  · rw [firstT_F4 h1, show accLo (68 / 16) = 128 from rfl, show accHi (68 / 16) = 143 from rfl]; omega

/-- the second byte fits the first, of a form of three or four bytes -/
def Fits (x y : Nat) : Prop := (x = 224 ∧ 160 ≤ y ∧ y ≤ 191) ∨ (225 ≤ x ∧ x ≤ 239 ∧ x ≠ 237 ∧ 128 ≤ y ∧ y ≤ 191) ∨ (x = 237 ∧ 128 ≤ y ∧ y ≤ 159) ∨ (x = 240 ∧ 144 ≤ y ∧ y ≤ 191) ∨ (241 ≤ x ∧ x ≤ 243 ∧ 128 ≤ y ∧ y ≤ 191) ∨ (x = 244 ∧ 128 ≤ y ∧ y ≤ 143)

theorem beg1 (a : UInt8) : begL [a] = true ↔ 194 ≤ a.toNat ∧ a.toNat ≤ 244 := by
  have h := ft_le1 a.toNat
  show (decide (1 ≠ 0) && !fullN 1 a.toNat 0 0) = true ↔ _
  unfold fullN
  simp
  omega

theorem Fits.lo {x y : Nat} (h : Fits x y) : 224 ≤ x ∧ x ≤ 244 := by
  unfold Fits at h
  omega

theorem ft_fits (x y : Nat) (h : 224 ≤ x ∧ x ≤ 244) : (y < accLo (firstT x / 16) ∨ accHi (firstT x / 16) < y) ↔ ¬ Fits x y := ft_acc x y h

theorem beg2 (a b : UInt8) : begL [a, b] = true ↔ Fits a.toNat b.toNat := by
  have h := ft_le2 a.toNat
  show (decide (2 ≠ 0) && !fullN 2 a.toNat b.toNat 0) = true ↔ _
  unfold fullN
  by_cases hx : 224 ≤ a.toNat ∧ a.toNat ≤ 244
  · have h2 := ft_fits a.toNat b.toNat hx
    have h3 : ¬ firstT a.toNat % 8 ≤ 2 := fun h' => (h.1 h') hx
    by_cases hy : Fits a.toNat b.toNat
    · have h4 : ¬ (b.toNat < accLo (firstT a.toNat / 16) ∨ accHi (firstT a.toNat / 16) < b.toNat) := fun h' => (h2.1 h') hy
      simp [h3, h4, hy]
    · have h4 := h2.2 hy
      simp [h4, hy]
  · have h3 : firstT a.toNat % 8 ≤ 2 := h.2 hx
    have h4 : ¬ Fits a.toNat b.toNat := fun h' => hx h'.lo
    simp [h3, h4]

theorem beg3 (a b c : UInt8) : begL [a, b, c] = true ↔ Fits a.toNat b.toNat ∧ 240 ≤ a.toNat ∧ 128 ≤ c.toNat ∧ c.toNat ≤ 191 := by
  have h := ft_le3 a.toNat
  show (decide (3 ≠ 0) && !fullN 3 a.toNat b.toNat c.toNat) = true ↔ _
  unfold fullN
  by_cases hx : 240 ≤ a.toNat ∧ a.toNat ≤ 244
  · have h2 := ft_fits a.toNat b.toNat ⟨by omega, hx.2⟩
    have h3 : ¬ firstT a.toNat % 8 ≤ 3 := fun h' => (h.1 h') hx
    by_cases hy : Fits a.toNat b.toNat
    · have h4 : ¬ (b.toNat < accLo (firstT a.toNat / 16) ∨ accHi (firstT a.toNat / 16) < b.toNat) := fun h' => (h2.1 h') hy
      by_cases hz : c.toNat < 128 ∨ 191 < c.toNat
      · have h5 : ¬ (128 ≤ c.toNat ∧ c.toNat ≤ 191) := by omega
        simp [hz, h5]
      · have h5 : 128 ≤ c.toNat ∧ c.toNat ≤ 191 := by omega
        simp [h3, h4, hy, hz, h5, hx.1]
    · have h4 := h2.2 hy
      simp [h4, hy]
  · have h3 : firstT a.toNat % 8 ≤ 3 := h.2 hx
    have h4 : ¬ (Fits a.toNat b.toNat ∧ 240 ≤ a.toNat ∧ 128 ≤ c.toNat ∧ c.toNat ≤ 191) := fun h' => hx ⟨h'.2.1, h'.1.lo.2⟩
    simp only [h3, h4, iff_false]
    simp

theorem beg4 (l : List UInt8) (h : 4 ≤ l.length) : begL l = false := by
  unfold begL
  have h1 : firstT (nb l 0) % 8 ≤ l.length := by
    rcases Lib.firstT_cases (nb l 0) with hX | hX | hX | hX | hX | hX | hX | hX | hX <;> rw [hX] <;> omega
  have h2 : l.length ≠ 0 := by omega
  have h3 : fullN l.length (nb l 0) (nb l 1) (nb l 2) = true := by
    unfold fullN
    simp only [h1, h2, decide_true, ne_eq, not_false_eq_true, Bool.true_and, Bool.true_or]
  simp [h3]

theorem dec1 (a : UInt8) : decL [a] = decodeN 1 a.toNat 0 0 0 := rfl
theorem dec2 (a b : UInt8) : decL [a, b] = decodeN 2 a.toNat b.toNat 0 0 := rfl
theorem dec3 (a b c : UInt8) : decL [a, b, c] = decodeN 3 a.toNat b.toNat c.toNat 0 := rfl
theorem dec4 (a b c d : UInt8) : decL [a, b, c, d] = decodeN 4 a.toNat b.toNat c.toNat d.toNat := rfl

end Dec
end Go.Proofs.Ytconccgfhdmafaa
