/- Layer 1, plain mathematics: the document's own answer (head, value, whole, Begins, Feed), and that it is ours. -/
import Derived.Test.YtconccgfhdmafaaM5
namespace Go.Proofs.Ytconccgfhdmafaa
set_option linter.unusedSimpArgs false
set_option linter.unusedVariables false
namespace Dec
open Go.Lib

def headN (x : Nat) : Nat × Nat :=
  if x < 128 then (1, x) else if 192 ≤ x ∧ x < 224 then (2, x - 192) else if 224 ≤ x ∧ x < 240 then (3, x - 224) else if 240 ≤ x ∧ x < 248 then (4, x - 240) else (0, 0)

def valK (s : List UInt8) (rest v0 : Nat) : Nat → Nat
  | 0 => v0
  | k + 1 => valK s rest v0 k * 64 + (if k + 1 < s.length then nb s (k + 1) % 64 else rest)

def valN (s : List UInt8) (rest : Nat) : Nat := valK s rest (headN (nb s 0)).2 ((headN (nb s 0)).1 - 1)

def wholeP (s : List UInt8) : Prop := s ≠ [] ∧ (headN (nb s 0)).1 = s.length ∧ goodB (valN s 0 : Int) = true ∧ Lib.encodeRune (valN s 0 : Int) = s

theorem head1 {x : Nat} (h : x < 128) : headN x = (1, x) := by unfold headN; rw [if_pos h]
theorem head2 {x : Nat} (h : 192 ≤ x ∧ x < 224) : headN x = (2, x - 192) := by unfold headN; rw [if_neg (by omega), if_pos h]
theorem head3 {x : Nat} (h : 224 ≤ x ∧ x < 240) : headN x = (3, x - 224) := by unfold headN; rw [if_neg (by omega), if_neg (by omega), if_pos h]
theorem head4 {x : Nat} (h : 240 ≤ x ∧ x < 248) : headN x = (4, x - 240) := by unfold headN; rw [if_neg (by omega), if_neg (by omega), if_neg (by omega), if_pos h]

theorem val1 (a : UInt8) (h : a.toNat < 128) (rest : Nat) : valN [a] rest = a.toNat := by
  unfold valN
  rw [show nb [a] 0 = a.toNat from rfl, head1 h]
  rfl

theorem enc1 (n : Nat) (h : n ≤ 127) : ∃ a : UInt8, Lib.encodeRune (n : Int) = [a] ∧ a.toNat = n := by
  refine ⟨_, ?_, enc_nat (n : Int) (by omega) (by omega)⟩
  unfold Lib.encodeRune
  rw [Lib.encodeRuneZ_one (by omega) (by omega)]
  rfl

theorem enc2 (n : Nat) (h : 128 ≤ n ∧ n ≤ 2047) : ∃ a b : UInt8, Lib.encodeRune (n : Int) = [a, b] ∧ a.toNat = 192 + n / 64 ∧ b.toNat = 128 + n % 64 := by
  refine ⟨_, _, ?_, (enc_nat (192 + (n : Int) / 64) (by omega) (by omega)).trans (by omega), (enc_nat (128 + (n : Int) % 64) (by omega) (by omega)).trans (by omega)⟩
  unfold Lib.encodeRune
  rw [Lib.encodeRuneZ_two (by omega) (by omega)]
  rfl

theorem enc3 (n : Nat) (h : (2048 ≤ n ∧ n < 55296) ∨ (57343 < n ∧ n ≤ 65535)) : ∃ a b c : UInt8, Lib.encodeRune (n : Int) = [a, b, c] ∧ a.toNat = 224 + n / 4096 ∧ b.toNat = 128 + n / 64 % 64 ∧ c.toNat = 128 + n % 64 := by
  refine ⟨_, _, _, ?_, (enc_nat (224 + (n : Int) / 4096) (by omega) (by omega)).trans (by omega), (enc_nat (128 + (n : Int) / 64 % 64) (by omega) (by omega)).trans (by omega), (enc_nat (128 + (n : Int) % 64) (by omega) (by omega)).trans (by omega)⟩
  unfold Lib.encodeRune
  rw [Lib.encodeRuneZ_three (by omega)]
  rfl

theorem enc4 (n : Nat) (h : 65536 ≤ n ∧ n ≤ 1114111) : ∃ a b c d : UInt8, Lib.encodeRune (n : Int) = [a, b, c, d] ∧ a.toNat = 240 + n / 262144 ∧ b.toNat = 128 + n / 4096 % 64 ∧ c.toNat = 128 + n / 64 % 64 ∧ d.toNat = 128 + n % 64 := by
  refine ⟨_, _, _, _, ?_, (enc_nat (240 + (n : Int) / 262144) (by omega) (by omega)).trans (by omega), (enc_nat (128 + (n : Int) / 4096 % 64) (by omega) (by omega)).trans (by omega), (enc_nat (128 + (n : Int) / 64 % 64) (by omega) (by omega)).trans (by omega), (enc_nat (128 + (n : Int) % 64) (by omega) (by omega)).trans (by omega)⟩
  unfold Lib.encodeRune
  rw [Lib.encodeRuneZ_four (by omega) (by omega)]
  rfl

theorem u8_ext {a b : UInt8} (h : a.toNat = b.toNat) : a = b := UInt8.toNat_inj.1 h

theorem val2 (a b : UInt8) (h : 192 ≤ a.toNat ∧ a.toNat < 224) (rest : Nat) : valN [a, b] rest = (a.toNat - 192) * 64 + b.toNat % 64 := by
  unfold valN
  rw [show nb [a, b] 0 = a.toNat from rfl, head2 h]
  rfl

theorem val3 (a b c : UInt8) (h : 224 ≤ a.toNat ∧ a.toNat < 240) (rest : Nat) : valN [a, b, c] rest = ((a.toNat - 224) * 64 + b.toNat % 64) * 64 + c.toNat % 64 := by
  unfold valN
  rw [show nb [a, b, c] 0 = a.toNat from rfl, head3 h]
  rfl

theorem val4 (a b c d : UInt8) (h : 240 ≤ a.toNat ∧ a.toNat < 248) (rest : Nat) : valN [a, b, c, d] rest = (((a.toNat - 240) * 64 + b.toNat % 64) * 64 + c.toNat % 64) * 64 + d.toNat % 64 := by
  unfold valN
  rw [show nb [a, b, c, d] 0 = a.toNat from rfl, head4 h]
  rfl

/-- a scalar value's form is whole -/
theorem whole_enc (n : Nat) (hg : goodB (n : Int) = true) : wholeP (Lib.encodeRune (n : Int)) ∧ valN (Lib.encodeRune (n : Int)) 0 = n := by
  have hg' := (goodB_iff _).1 hg
  have key : Lib.encodeRune (n : Int) ≠ [] ∧ (headN (nb (Lib.encodeRune (n : Int)) 0)).1 = (Lib.encodeRune (n : Int)).length ∧ valN (Lib.encodeRune (n : Int)) 0 = n := by
    rcases (by omega : n ≤ 127 ∨ (128 ≤ n ∧ n ≤ 2047) ∨ ((2048 ≤ n ∧ n < 55296) ∨ (57343 < n ∧ n ≤ 65535)) ∨ (65536 ≤ n ∧ n ≤ 1114111)) with h | h | h | h
    · obtain ⟨a, e, h1⟩ := enc1 n h
      rw [e]
      refine ⟨by simp, ?_, ?_⟩
      · rw [show nb [a] 0 = a.toNat from rfl, head1 (by omega)]; rfl
      · rw [val1 a (by omega), h1]
    · obtain ⟨a, b, e, h1, h2⟩ := enc2 n h
      rw [e]
      refine ⟨by simp, ?_, ?_⟩
      · rw [show nb [a, b] 0 = a.toNat from rfl, head2 (by omega)]; rfl
      · rw [val2 a b (by omega)]; omega
    · obtain ⟨a, b, c, e, h1, h2, h3⟩ := enc3 n h
      rw [e]
      refine ⟨by simp, ?_, ?_⟩
      · rw [show nb [a, b, c] 0 = a.toNat from rfl, head3 (by omega)]; rfl
      · rw [val3 a b c (by omega)]; omega
    · obtain ⟨a, b, c, d, e, h1, h2, h3, h4⟩ := enc4 n h
      rw [e]
      refine ⟨by simp, ?_, ?_⟩
      · rw [show nb [a, b, c, d] 0 = a.toNat from rfl, head4 (by omega)]; rfl
      · rw [val4 a b c d (by omega)]; omega
  obtain ⟨h1, h2, h3⟩ := key
  exact ⟨⟨h1, h2, by rw [h3]; exact hg, by rw [h3]⟩, h3⟩

theorem whole_form {s : List UInt8} (h : wholeP s) : Form (valN s 0 : Int) s := by
  have := form_enc _ h.2.2.1
  rw [h.2.2.2] at this
  exact this

/-- the values that are tried -/
def candB (s : List UInt8) (lo hi n : Nat) (x : Int) : Bool :=
  decide ((lo : Int) ≤ x) && decide (x ≤ (hi : Int)) && goodB x && (decide ((Lib.encodeRune x).length = n) && decide ((Lib.encodeRune x).take s.length = s))

def cands (lo hi : Nat) : List Int := [(lo : Int), (hi : Int), 128, 2048, 65536, 55295, 57344, 1114111]

def begR (s : List UInt8) : Bool :=
  decide (s.length ≠ 0) && decide (s.length ≤ 3) && decide (s.length < (headN (nb s 0)).1) && (cands (valN s 0) (valN s 63)).any (candB s (valN s 0) (valN s 63) (headN (nb s 0)).1)

theorem begR_of (s : List UInt8) (h1 : s.length ≠ 0) (h2 : s.length ≤ 3) (h3 : s.length < (headN (nb s 0)).1) (x : Nat) (hx : (x : Int) ∈ cands (valN s 0) (valN s 63)) (hlo : valN s 0 ≤ x) (hhi : x ≤ valN s 63)
    (hg : goodB (x : Int) = true) (hl : (Lib.encodeRune (x : Int)).length = (headN (nb s 0)).1) (ht : (Lib.encodeRune (x : Int)).take s.length = s) : begR s = true := by
  unfold begR
  simp only [h1, h2, h3, ne_eq, not_false_eq_true, decide_true, Bool.true_and]
  refine List.any_eq_true.2 ⟨(x : Int), hx, ?_⟩
  unfold candB
  have e1 : decide ((valN s 0 : Int) ≤ (x : Int)) = true := decide_eq_true (by omega)
  have e2 : decide ((x : Int) ≤ (valN s 63 : Int)) = true := decide_eq_true (by omega)
  rw [e1, e2, hg, hl, ht]
  simp

theorem begR_beg (s : List UInt8) (h : begR s = true) : begL s = true := by
  unfold begR at h
  simp only [Bool.and_eq_true, decide_eq_true_eq, List.any_eq_true] at h
  obtain ⟨⟨⟨h1, h2⟩, h3⟩, x, _, hx⟩ := h
  unfold candB at hx
  simp only [Bool.and_eq_true, decide_eq_true_eq] at hx
  obtain ⟨⟨_, hg⟩, hl, ht⟩ := hx
  have := (form_enc x hg).beg s.length (by omega) (by omega)
  rw [ht] at this
  exact this

end Dec
end Go.Proofs.Ytconccgfhdmafaa
