/- Texts that stand together. -/
import Derived.Test.YtiidjkhkcckmkaaGreatDoorMatP
import Derived.Test.YtiidjkhkcckmkaaGreatDoorKP
import Derived.Test.YtiidjkhkcckmkaaGreatDoorBasP
import Derived.Deep.LoopGhost
import Derived.Deep.DeepCutAuto
import Derived.Test.YtiidjkhkcckmkaaGreatDoorG1
import Derived.StillTailTactics
import Derived.Deep.RegionHeld3
import Derived.Deep.QuietTactic
import Derived.BigQuiet
/- Layer 1, plain mathematics: the document's own answer (head, value, whole, Begins, Feed), and that it is ours. -/
namespace Go.Proofs.YtiidjkhkcckmkaaGreatDoor
set_option linter.unusedSimpArgs false
set_option linter.unusedVariables false
namespace Dec
open Go.Lib
def headN (x : Nat) : Nat × Nat :=
  if x < 128 then (1, x) else if 192 ≤ x ∧ x < 224 then (2, x - 192) else if 224 ≤ x ∧ x < 240 then (3, x - 224) else if 240 ≤ x ∧ x < 248 then (4, x - 240) else (0, 0)
def valK (s : List UInt8) (rest v0 : Nat) : Nat → Nat
  | 0 => v0
  | k + 1 => valK s rest v0 k * 64 + (if k + 1 < s.length then nb s (k + 1) % 64 else rest)
def valN (s : List UInt8) (rest : Nat) : Nat := valK s rest (headN (nb s 0)).2 ((headN (nb s 0)).1 - 1)
def wholeP (s : List UInt8) : Prop := s ≠ [] ∧ (headN (nb s 0)).1 = s.length ∧ goodB (valN s 0 : Int) = true ∧ Lib.encodeRune (valN s 0 : Int) = s
theorem head1 {x : Nat} (h : x < 128) : headN x = (1, x) := by unfold headN; rw [if_pos h]
theorem head2 {x : Nat} (h : 192 ≤ x ∧ x < 224) : headN x = (2, x - 192) := by unfold headN; rw [if_neg (by omega), if_pos h]
theorem head3 {x : Nat} (h : 224 ≤ x ∧ x < 240) : headN x = (3, x - 224) := by unfold headN; rw [if_neg (by omega), if_neg (by omega), if_pos h]
theorem head4 {x : Nat} (h : 240 ≤ x ∧ x < 248) : headN x = (4, x - 240) := by unfold headN; rw [if_neg (by omega), if_neg (by omega), if_neg (by omega), if_pos h]
theorem val1 (a : UInt8) (h : a.toNat < 128) (rest : Nat) : valN [a] rest = a.toNat := by
  unfold valN
  rw [show nb [a] 0 = a.toNat from rfl, head1 h]
  rfl
theorem enc1 (n : Nat) (h : n ≤ 127) : ∃ a : UInt8, Lib.encodeRune (n : Int) = [a] ∧ a.toNat = n := by
  refine ⟨_, ?_, enc_nat (n : Int) (by omega) (by omega)⟩
  unfold Lib.encodeRune
  rw [Lib.encodeRuneZ_one (by omega) (by omega)]
  rfl
theorem enc2 (n : Nat) (h : 128 ≤ n ∧ n ≤ 2047) : ∃ a b : UInt8, Lib.encodeRune (n : Int) = [a, b] ∧ a.toNat = 192 + n / 64 ∧ b.toNat = 128 + n % 64 := by
  refine ⟨_, _, ?_, (enc_nat (192 + (n : Int) / 64) (by omega) (by omega)).trans (by omega), (enc_nat (128 + (n : Int) % 64) (by omega) (by omega)).trans (by omega)⟩
  unfold Lib.encodeRune
  rw [Lib.encodeRuneZ_two (by omega) (by omega)]
  rfl
theorem enc3 (n : Nat) (h : (2048 ≤ n ∧ n < 55296) ∨ (57343 < n ∧ n ≤ 65535)) : ∃ a b c : UInt8, Lib.encodeRune (n : Int) = [a, b, c] ∧ a.toNat = 224 + n / 4096 ∧ b.toNat = 128 + n / 64 % 64 ∧ c.toNat = 128 + n % 64 := by
  refine ⟨_, _, _, ?_, (enc_nat (224 + (n : Int) / 4096) (by omega) (by omega)).trans (by omega), (enc_nat (128 + (n : Int) / 64 % 64) (by omega) (by omega)).trans (by omega), (enc_nat (128 + (n : Int) % 64) (by omega) (by omega)).trans (by omega)⟩
  unfold Lib.encodeRune
  rw [Lib.encodeRuneZ_three (by omega)]
  rfl
theorem enc4 (n : Nat) (h : 65536 ≤ n ∧ n ≤ 1114111) : ∃ a b c d : UInt8, Lib.encodeRune (n : Int) = [a, b, c, d] ∧ a.toNat = 240 + n / 262144 ∧ b.toNat = 128 + n / 4096 % 64 ∧ c.toNat = 128 + n / 64 % 64 ∧ d.toNat = 128 + n % 64 := by
  refine ⟨_, _, _, _, ?_, (enc_nat (240 + (n : Int) / 262144) (by omega) (by omega)).trans (by omega), (enc_nat (128 + (n : Int) / 4096 % 64) (by omega) (by omega)).trans (by omega), (enc_nat (128 + (n : Int) / 64 % 64) (by omega) (by omega)).trans (by omega), (enc_nat (128 + (n : Int) % 64) (by omega) (by omega)).trans (by omega)⟩
  unfold Lib.encodeRune
  rw [Lib.encodeRuneZ_four (by omega) (by omega)]
  rfl
theorem u8_ext {a b : UInt8} (h : a.toNat = b.toNat) : a = b := UInt8.toNat_inj.1 h
theorem val2 (a b : UInt8) (h : 192 ≤ a.toNat ∧ a.toNat < 224) (rest : Nat) : valN [a, b] rest = (a.toNat - 192) * 64 + b.toNat % 64 := by
  unfold valN
  rw [show nb [a, b] 0 = a.toNat from rfl, head2 h]
  rfl
theorem val3 (a b c : UInt8) (h : 224 ≤ a.toNat ∧ a.toNat < 240) (rest : Nat) : valN [a, b, c] rest = ((a.toNat - 224) * 64 + b.toNat % 64) * 64 + c.toNat % 64 := by
  unfold valN
  rw [show nb [a, b, c] 0 = a.toNat from rfl, head3 h]
  rfl
theorem val4 (a b c d : UInt8) (h : 240 ≤ a.toNat ∧ a.toNat < 248) (rest : Nat) : valN [a, b, c, d] rest = (((a.toNat - 240) * 64 + b.toNat % 64) * 64 + c.toNat % 64) * 64 + d.toNat % 64 := by
  unfold valN
  rw [show nb [a, b, c, d] 0 = a.toNat from rfl, head4 h]
  rfl
theorem whole_form {s : List UInt8} (h : wholeP s) : Form (valN s 0 : Int) s := by
  have := form_enc _ h.2.2.1
  rw [h.2.2.2] at this
  exact this
def candB (s : List UInt8) (lo hi n : Nat) (x : Int) : Bool :=
  decide ((lo : Int) ≤ x) && decide (x ≤ (hi : Int)) && goodB x && (decide ((Lib.encodeRune x).length = n) && decide ((Lib.encodeRune x).take s.length = s))
def cands (lo hi : Nat) : List Int := [(lo : Int), (hi : Int), 128, 2048, 65536, 55295, 57344, 1114111]
def begR (s : List UInt8) : Bool :=
  decide (s.length ≠ 0) && decide (s.length ≤ 3) && decide (s.length < (headN (nb s 0)).1) && (cands (valN s 0) (valN s 63)).any (candB s (valN s 0) (valN s 63) (headN (nb s 0)).1)
theorem begR_of (s : List UInt8) (h1 : s.length ≠ 0) (h2 : s.length ≤ 3) (h3 : s.length < (headN (nb s 0)).1) (x : Nat) (hx : (x : Int) ∈ cands (valN s 0) (valN s 63)) (hlo : valN s 0 ≤ x) (hhi : x ≤ valN s 63)
    (hg : goodB (x : Int) = true) (hl : (Lib.encodeRune (x : Int)).length = (headN (nb s 0)).1) (ht : (Lib.encodeRune (x : Int)).take s.length = s) : begR s = true := by
  unfold begR
  simp only [h1, h2, h3, ne_eq, not_false_eq_true, decide_true, Bool.true_and]
  refine List.any_eq_true.2 ⟨(x : Int), hx, ?_⟩
  unfold candB
  have e1 : decide ((valN s 0 : Int) ≤ (x : Int)) = true := decide_eq_true (by omega)
  have e2 : decide ((x : Int) ≤ (valN s 63 : Int)) = true := decide_eq_true (by omega)
  rw [e1, e2, hg, hl, ht]
  simp
theorem begR_beg (s : List UInt8) (h : begR s = true) : begL s = true := by
  unfold begR at h
  simp only [Bool.and_eq_true, decide_eq_true_eq, List.any_eq_true] at h
  obtain ⟨⟨⟨h1, h2⟩, h3⟩, x, _, hx⟩ := h
  unfold candB at hx
  simp only [Bool.and_eq_true, decide_eq_true_eq] at hx
  obtain ⟨⟨_, hg⟩, hl, ht⟩ := hx
  have := (form_enc x hg).beg s.length (by omega) (by omega)
  rw [ht] at this
  exact this
end Dec
end Go.Proofs.YtiidjkhkcckmkaaGreatDoor

/- Layer 1, plain mathematics: the document's beginnings and its Feed are ours. -/
namespace Go.Proofs.YtiidjkhkcckmkaaGreatDoor
set_option linter.unusedSimpArgs false
set_option linter.unusedVariables false
namespace Dec
open Go.Lib
theorem beg_len {s : List UInt8} (h : begL s = true) : s.length ≠ 0 ∧ s.length ≤ 3 := by
  constructor
  · intro h0
    rw [List.eq_nil_of_length_eq_zero h0] at h
    cases h
  · rcases Nat.lt_or_ge s.length 4 with h1 | h1
    · omega
    · rw [beg4 s h1] at h
      cases h
theorem valA (a : UInt8) (rest : Nat) : (192 ≤ a.toNat ∧ a.toNat < 224 → valN [a] rest = (a.toNat - 192) * 64 + rest) ∧
    (224 ≤ a.toNat ∧ a.toNat < 240 → valN [a] rest = ((a.toNat - 224) * 64 + rest) * 64 + rest) ∧
    (240 ≤ a.toNat ∧ a.toNat < 248 → valN [a] rest = (((a.toNat - 240) * 64 + rest) * 64 + rest) * 64 + rest) := by
  refine ⟨fun h => ?_, fun h => ?_, fun h => ?_⟩
  · unfold valN; rw [show nb [a] 0 = a.toNat from rfl, head2 h]; rfl
  · unfold valN; rw [show nb [a] 0 = a.toNat from rfl, head3 h]; rfl
  · unfold valN; rw [show nb [a] 0 = a.toNat from rfl, head4 h]; rfl
theorem valAB (a b : UInt8) (rest : Nat) : (224 ≤ a.toNat ∧ a.toNat < 240 → valN [a, b] rest = ((a.toNat - 224) * 64 + b.toNat % 64) * 64 + rest) ∧
    (240 ≤ a.toNat ∧ a.toNat < 248 → valN [a, b] rest = (((a.toNat - 240) * 64 + b.toNat % 64) * 64 + rest) * 64 + rest) := by
  refine ⟨fun h => ?_, fun h => ?_⟩
  · unfold valN; rw [show nb [a, b] 0 = a.toNat from rfl, head3 h]; rfl
  · unfold valN; rw [show nb [a, b] 0 = a.toNat from rfl, head4 h]; rfl
theorem valABC (a b c : UInt8) (rest : Nat) (h : 240 ≤ a.toNat ∧ a.toNat < 248) : valN [a, b, c] rest = (((a.toNat - 240) * 64 + b.toNat % 64) * 64 + c.toNat % 64) * 64 + rest := by
  unfold valN; rw [show nb [a, b, c] 0 = a.toNat from rfl, head4 h]; rfl
theorem mem_lo (lo hi : Nat) : (lo : Int) ∈ cands lo hi := by simp [cands]
theorem mem_2048 (lo hi : Nat) : ((2048 : Nat) : Int) ∈ cands lo hi := by simp [cands]
theorem mem_65536 (lo hi : Nat) : ((65536 : Nat) : Int) ∈ cands lo hi := by simp [cands]
theorem good_nat {n : Nat} (h : n ≤ 1114111 ∧ (n < 55296 ∨ 57343 < n)) : goodB (n : Int) = true := (goodB_iff _).2 (by omega)
theorem beg_begR (s : List UInt8) (h : begL s = true) : begR s = true := by
  obtain ⟨h0, h3⟩ := beg_len h
  match s, h0, h3 with
  | [a], _, _ =>
    have ha := (beg1 a).1 h
    have hn : nb [a] 0 = a.toNat := rfl
    obtain ⟨v2, v3, v4⟩ := valA a 0
    obtain ⟨w2, w3, w4⟩ := valA a 63
    rcases (by omega : a.toNat < 224 ∨ a.toNat = 224 ∨ (224 < a.toNat ∧ a.toNat < 240) ∨ a.toNat = 240 ∨ 240 < a.toNat) with h1 | h1 | h1 | h1 | h1
    · have e1 := v2 (by omega)
      have e2 := w2 (by omega)
      obtain ⟨x, y, e, hx, hy⟩ := enc2 (valN [a] 0) (by omega)
      refine begR_of [a] (by simp) (by simp) (by rw [hn, head2 (by omega)]; simp) (valN [a] 0) (mem_lo _ _) (Nat.le_refl _) (by omega) (good_nat (by omega)) (by rw [e, hn, head2 (by omega)]; rfl) ?_
      rw [e]
      simp only [List.length_singleton, List.take_succ_cons, List.take_zero, List.cons.injEq, and_true]
      exact u8_ext (by omega)
    · have e1 := v3 (by omega)
      have e2 := w3 (by omega)
      obtain ⟨x, y, z, e, hx, hy, hz⟩ := enc3 2048 (by omega)
      refine begR_of [a] (by simp) (by simp) (by rw [hn, head3 (by omega)]; simp) 2048 (mem_2048 _ _) (by omega) (by omega) (good_nat (by omega)) (by rw [e, hn, head3 (by omega)]; rfl) ?_
      rw [e]
      simp only [List.length_singleton, List.take_succ_cons, List.take_zero, List.cons.injEq, and_true]
      exact u8_ext (by omega)
    · have e1 := v3 (by omega)
      have e2 := w3 (by omega)
      obtain ⟨x, y, z, e, hx, hy, hz⟩ := enc3 (valN [a] 0) (by omega)
      refine begR_of [a] (by simp) (by simp) (by rw [hn, head3 (by omega)]; simp) (valN [a] 0) (mem_lo _ _) (Nat.le_refl _) (by omega) (good_nat (by omega)) (by rw [e, hn, head3 (by omega)]; rfl) ?_
      rw [e]
      simp only [List.length_singleton, List.take_succ_cons, List.take_zero, List.cons.injEq, and_true]
      exact u8_ext (by omega)
    · have e1 := v4 (by omega)
      have e2 := w4 (by omega)
      obtain ⟨x, y, z, t, e, hx, hy, hz, ht⟩ := enc4 65536 (by omega)
      refine begR_of [a] (by simp) (by simp) (by rw [hn, head4 (by omega)]; simp) 65536 (mem_65536 _ _) (by omega) (by omega) (good_nat (by omega)) (by rw [e, hn, head4 (by omega)]; rfl) ?_
      rw [e]
      simp only [List.length_singleton, List.take_succ_cons, List.take_zero, List.cons.injEq, and_true]
      exact u8_ext (by omega)
    · have e1 := v4 (by omega)
      have e2 := w4 (by omega)
      obtain ⟨x, y, z, t, e, hx, hy, hz, ht⟩ := enc4 (valN [a] 0) (by omega)
      refine begR_of [a] (by simp) (by simp) (by rw [hn, head4 (by omega)]; simp) (valN [a] 0) (mem_lo _ _) (Nat.le_refl _) (by omega) (good_nat (by omega)) (by rw [e, hn, head4 (by omega)]; rfl) ?_
      rw [e]
      simp only [List.length_singleton, List.take_succ_cons, List.take_zero, List.cons.injEq, and_true]
      exact u8_ext (by omega)
  | [a, b], _, _ =>
    have hf := (beg2 a b).1 h
    have ha := hf.lo
    unfold Fits at hf
    have hb : b.toNat % 64 = b.toNat - 128 ∧ 128 ≤ b.toNat ∧ b.toNat ≤ 191 := by omega
    have hn : nb [a, b] 0 = a.toNat := rfl
    obtain ⟨v3, v4⟩ := valAB a b 0
    obtain ⟨w3, w4⟩ := valAB a b 63
    rcases (by omega : a.toNat < 240 ∨ 240 ≤ a.toNat) with h1 | h1
    · have e1 := v3 (by omega)
      have e2 := w3 (by omega)
      obtain ⟨x, y, z, e, hx, hy, hz⟩ := enc3 (valN [a, b] 0) (by omega)
      refine begR_of [a, b] (by simp) (by simp) (by rw [hn, head3 (by omega)]; simp) (valN [a, b] 0) (mem_lo _ _) (Nat.le_refl _) (by omega) (good_nat (by omega)) (by rw [e, hn, head3 (by omega)]; rfl) ?_
      rw [e]
      simp only [List.length_cons, List.length_nil, List.take_succ_cons, List.take_zero, List.cons.injEq, and_true]
      exact ⟨u8_ext (by omega), u8_ext (by omega)⟩
    · have e1 := v4 (by omega)
      have e2 := w4 (by omega)
      obtain ⟨x, y, z, t, e, hx, hy, hz, ht⟩ := enc4 (valN [a, b] 0) (by omega)
      refine begR_of [a, b] (by simp) (by simp) (by rw [hn, head4 (by omega)]; simp) (valN [a, b] 0) (mem_lo _ _) (Nat.le_refl _) (by omega) (good_nat (by omega)) (by rw [e, hn, head4 (by omega)]; rfl) ?_
      rw [e]
      simp only [List.length_cons, List.length_nil, List.take_succ_cons, List.take_zero, List.cons.injEq, and_true]
      exact ⟨u8_ext (by omega), u8_ext (by omega)⟩
  | [a, b, c], _, _ =>
    obtain ⟨hf, h1, hc1, hc2⟩ := (beg3 a b c).1 h
    have ha := hf.lo
    unfold Fits at hf
    have hb : b.toNat % 64 = b.toNat - 128 ∧ 128 ≤ b.toNat ∧ b.toNat ≤ 191 := by omega
    have hc : c.toNat % 64 = c.toNat - 128 := by omega
    have hn : nb [a, b, c] 0 = a.toNat := rfl
    have e1 := valABC a b c 0 (by omega)
    have e2 := valABC a b c 63 (by omega)
    obtain ⟨x, y, z, t, e, hx, hy, hz, ht⟩ := enc4 (valN [a, b, c] 0) (by omega)
    refine begR_of [a, b, c] (by simp) (by simp) (by rw [hn, head4 (by omega)]; simp) (valN [a, b, c] 0) (mem_lo _ _) (Nat.le_refl _) (by omega) (good_nat (by omega)) (by rw [e, hn, head4 (by omega)]; rfl) ?_
    rw [e]
    simp only [List.length_cons, List.length_nil, List.take_succ_cons, List.take_zero, List.cons.injEq, and_true]
    exact ⟨u8_ext (by omega), u8_ext (by omega), u8_ext (by omega)⟩
theorem begR_eq (s : List UInt8) : begR s = begL s := by
  rw [Bool.eq_iff_iff]
  exact ⟨begR_beg s, beg_begR s⟩
theorem whole_of_dec2 (a b : UInt8) (h : (decL [a, b]).2 = 2) : wholeP [a, b] := by
  rw [dec2] at h
  unfold decodeN at h
  have hb := b.toNat_lt
  by_cases h1 : a.toNat < 128
  · rw [if_pos h1] at h; simp at h
  rw [if_neg h1] at h
  by_cases h2 : a.toNat / 32 = 6 ∧ (1 < 2 ∧ b.toNat / 64 = 2)
  · rw [if_pos h2] at h
    by_cases h3 : a.toNat % 32 * 64 + b.toNat % 64 ≥ 128
    · obtain ⟨x, y, e, hx, hy⟩ := enc2 (valN [a, b] 0) (by rw [val2 a b (by omega)]; omega)
      have hv := val2 a b (by omega) 0
      refine ⟨by simp, by rw [show nb [a, b] 0 = a.toNat from rfl, head2 (by omega)]; rfl, good_nat (by omega), ?_⟩
      rw [e]
      simp only [List.cons.injEq, and_true]
      exact ⟨u8_ext (by omega), u8_ext (by omega)⟩
    · rw [if_neg h3] at h; simp at h
  · rw [if_neg h2, if_neg (by omega), if_neg (by omega)] at h
    simp at h
theorem whole_of_dec3 (a b c : UInt8) (hf : Fits a.toNat b.toNat) (h : (decL [a, b, c]).2 = 3) : wholeP [a, b, c] := by
  have ha := hf.lo
  rw [dec3] at h
  unfold decodeN at h
  rw [if_neg (by omega), if_neg (by omega)] at h
  by_cases h2 : a.toNat / 16 = 14 ∧ (1 < 3 ∧ b.toNat / 64 = 2) ∧ (2 < 3 ∧ c.toNat / 64 = 2)
  · rw [if_pos h2] at h
    by_cases h3 : a.toNat % 16 * 4096 + b.toNat % 64 * 64 + c.toNat % 64 ≥ 2048 ∧ (a.toNat % 16 * 4096 + b.toNat % 64 * 64 + c.toNat % 64 < 55296 ∨ (57344 ≤ a.toNat % 16 * 4096 + b.toNat % 64 * 64 + c.toNat % 64 ∧ a.toNat % 16 * 4096 + b.toNat % 64 * 64 + c.toNat % 64 ≤ 1114111))
    · have hv := val3 a b c (by omega) 0
      obtain ⟨x, y, z, e, hx, hy, hz⟩ := enc3 (valN [a, b, c] 0) (by omega)
      refine ⟨by simp, by rw [show nb [a, b, c] 0 = a.toNat from rfl, head3 (by omega)]; rfl, good_nat (by omega), ?_⟩
      rw [e]
      simp only [List.cons.injEq, and_true]
      exact ⟨u8_ext (by omega), u8_ext (by omega), u8_ext (by omega)⟩
    · rw [if_neg h3] at h; simp at h
  · rw [if_neg h2, if_neg (by omega)] at h
    simp at h
theorem whole_of_dec4 (a b c d : UInt8) (hf : Fits a.toNat b.toNat) (h1 : 240 ≤ a.toNat) (h : (decL [a, b, c, d]).2 = 4) : wholeP [a, b, c, d] := by
  have ha := hf.lo
  rw [dec4] at h
  unfold decodeN at h
  rw [if_neg (by omega), if_neg (by omega), if_neg (by omega)] at h
  by_cases h2 : a.toNat / 8 = 30 ∧ (1 < 4 ∧ b.toNat / 64 = 2) ∧ (2 < 4 ∧ c.toNat / 64 = 2) ∧ (3 < 4 ∧ d.toNat / 64 = 2)
  · rw [if_pos h2] at h
    unfold Fits at hf
    have hv := val4 a b c d (by omega) 0
    obtain ⟨x, y, z, t, e, hx, hy, hz, ht⟩ := enc4 (valN [a, b, c, d] 0) (by omega)
    refine ⟨by simp, by rw [show nb [a, b, c, d] 0 = a.toNat from rfl, head4 (by omega)]; rfl, good_nat (by omega), ?_⟩
    rw [e]
    simp only [List.cons.injEq, and_true]
    exact ⟨u8_ext (by omega), u8_ext (by omega), u8_ext (by omega), u8_ext (by omega)⟩
  · rw [if_neg h2] at h
    simp at h
theorem ref_whole {s : List UInt8} {c : UInt8} (hs : saneL s = true) (h : wholeP (s ++ [c])) : feedL s c = ([], [(valN (s ++ [c]) 0 : Int)]) := by
  have hf := whole_form h
  have hd : decL (s ++ [c]) = (valN (s ++ [c]) 0, (s ++ [c]).length) := by rw [hf.dec]; rfl
  rw [feedL_dec hs hf.nobeg (by rw [hd]; simp), hd]
theorem ref_alone {c : UInt8} (h : ¬ wholeP [c]) (hb : begL [c] = false) : feedL [] c = ([], [65533]) := by
  rw [feedL_zero, hb]
  have h1 : ¬ c.toNat < 128 := by
    intro h1
    obtain ⟨a, e, ha⟩ := enc1 c.toNat (by omega)
    refine h ⟨by simp, by rw [show nb [c] 0 = c.toNat from rfl, head1 h1]; rfl, ?_, ?_⟩
    · rw [val1 c h1]; exact good_nat (by omega)
    · rw [val1 c h1, e, u8_ext ha]
  rw [dec1_fst, if_neg h1]
  rfl
theorem ref_again {s : List UInt8} {c : UInt8} (hs : saneL s = true) (h0 : s ≠ []) (h : ¬ wholeP (s ++ [c])) (hb : begL (s ++ [c]) = false) : feedL s c = ((feedL [] c).1, 65533 :: (feedL [] c).2) := by
  refine feedL_rec hs hb fun hd => h ?_
  have hbs : begL s = true := by
    unfold saneL at hs
    rcases Bool.or_eq_true_iff.1 hs with h1 | h1
    · exact absurd (List.eq_nil_of_length_eq_zero (of_decide_eq_true h1)) h0
    · exact h1
  obtain ⟨h1, h3⟩ := beg_len hbs
  match s, h1, h3 with
  | [a], _, _ => exact whole_of_dec2 a c hd
  | [a, b], _, _ => exact whole_of_dec3 a b c ((beg2 a b).1 hbs) hd
  | [a, b, d], _, _ => exact whole_of_dec4 a b d c ((beg3 a b d).1 hbs).1 ((beg3 a b d).1 hbs).2.1 hd
end Dec
end Go.Proofs.YtiidjkhkcckmkaaGreatDoor

/- The document's answer for layer 1's Good, Form, Text, for layers above. -/
namespace Go.Proofs.YtiidjkhkcckmkaaGreatDoor.Tx
set_option linter.unusedSimpArgs false
set_option linter.unusedVariables false
open Go.RowKit Go.Lib
set_option maxHeartbeats 400000 in
theorem rgood_any (r : Int) (w : World) :
    Calls Tryz.prog 103 #[.int .i64 r] w fun e w' => e = .returned (.bool (Dec.goodB r)) ∧ w = w' := by
  by_cases h0 : 0 ≤ r
  · by_cases h1 : r ≤ 1114111
    · by_cases h2 : r < 55296
      all_goals
        go_enter Tryz.func103, Tryz.ntmps103
        go_wp2
        go_ret
        exact ⟨ret_bool (by unfold Dec.goodB; grind), rfl⟩
    · go_enter Tryz.func103, Tryz.ntmps103
      go_wp2
      go_ret
      exact ⟨ret_bool (by unfold Dec.goodB; grind), rfl⟩
  · go_enter Tryz.func103, Tryz.ntmps103
    go_wp2
    go_ret
    exact ⟨ret_bool (by unfold Dec.goodB; grind), rfl⟩
theorem run_bytes_new (l : List UInt8) (cs : Array Value) (n : Nat) (hn : n = l.length) (h : cs.toList = l.map fun c => Value.int .u8 (c.toNat : Int)) (W : World) :
    (convert 59 9 (.slice (some ⟨W.heap.size, 0, none⟩) n n)).run Tryz.prog (W.alloc (.cells cs 5)) = .ok (.string ⟨l.toArray⟩) (W.alloc (.cells cs 5)) := by
  subst hn
  refine run_convert_bytes_back (P := Tryz.prog) _ 59 9 5 ⟨W.heap.size, 0, none⟩ l.length l Tryz.underlying59 Tryz.underlying5 Tryz.underlying9 ?_
  intro j hj
  have hadd : (⟨W.heap.size, 0, none⟩ : Addr).add j = ⟨W.heap.size, j, none⟩ := by unfold Addr.add; split <;> simp_all
  rw [hadd]
  have e : cs[j]? = some (.int .u8 (l[j].toNat : Int)) := by
    rw [← Array.getElem?_toList, h, List.getElem?_map, List.getElem?_eq_getElem hj]
    rfl
  simpa using e
def FormRes (r : Int) (w : World) (e : Ending) (w' : World) : Prop := e = .returned (.string ⟨(Lib.encodeRune r).toArray⟩) ∧ Below w.heap.size w w'
set_option maxHeartbeats 1600000 in
theorem form_any (r : Int) (hg : Dec.goodB r = true) (w : World) :
    Calls Tryz.prog 104 #[.int .i64 r] w (FormRes r w) := by
  have hg' := (Dec.goodB_iff r).1 hg
  obtain ⟨n, rfl⟩ := Int.eq_ofNat_of_zero_le hg'.1
  rcases (by omega : n ≤ 127 ∨ (128 ≤ n ∧ n ≤ 2047) ∨ ((2048 ≤ n ∧ n < 55296) ∨ (57343 < n ∧ n ≤ 65535)) ∨ (65536 ≤ n ∧ n ≤ 1114111)) with h | h | h | h
  · obtain ⟨a, e, h1⟩ := Dec.enc1 n h
    have hcv := fun W => run_bytes_new [a] #[.int .u8 (n : Int)] 1 rfl (by rw [← h1]; rfl) W
    replace e := Lib.hid e
    have t1 : (n : Int) < 128 := by omega
    clear h hg hg' h1
    go_enter Tryz.func104, Tryz.ntmps104
    go_wp2_with fail
    go_ret
    exact ⟨by rw [e.out]; rfl, below_new _ _⟩
  · obtain ⟨a, b, e, h1, h2⟩ := Dec.enc2 n h
    have hcv := fun W => run_bytes_new [a, b] #[.int .u8 (192 + (n : Int) / 64), .int .u8 (128 + (n : Int) % 64)] 2 rfl (by rw [show 192 + (n : Int) / 64 = (a.toNat : Int) by omega, show 128 + (n : Int) % 64 = (b.toNat : Int) by omega]; rfl) W
    replace e := Lib.hid e
    have t1 : decide ((n : Int) < 128) = false := by simp; omega
    have t2 : (n : Int) < 2048 := by omega
    have t3 : (128 : Int) ≤ (n : Int) := by omega
    clear h hg hg' h1 h2
    go_enter Tryz.func104, Tryz.ntmps104
    go_wp2_with fail
    go_ret
    exact ⟨by rw [e.out]; rfl, below_new _ _⟩
  · obtain ⟨a, b, c, e, h1, h2, h3⟩ := Dec.enc3 n h
    have hcv := fun W => run_bytes_new [a, b, c] #[.int .u8 (224 + (n : Int) / 4096), .int .u8 (128 + (n : Int) / 64 % 64), .int .u8 (128 + (n : Int) % 64)] 3 rfl (by rw [show 224 + (n : Int) / 4096 = (a.toNat : Int) by omega, show 128 + (n : Int) / 64 % 64 = (b.toNat : Int) by omega, show 128 + (n : Int) % 64 = (c.toNat : Int) by omega]; rfl) W
    replace e := Lib.hid e
    have t1 : decide ((n : Int) < 128) = false := by simp; omega
    have t2 : decide ((n : Int) < 2048) = false := by simp; omega
    have t4 : (n : Int) < 65536 := by omega
    have t3 : (2048 : Int) ≤ (n : Int) := by omega
    clear h hg hg' h1 h2 h3
    go_enter Tryz.func104, Tryz.ntmps104
    go_wp2_with fail
    go_ret
    exact ⟨by rw [e.out]; rfl, below_new _ _⟩
  · obtain ⟨a, b, c, d, e, h1, h2, h3, h4⟩ := Dec.enc4 n h
    have hcv := fun W => run_bytes_new [a, b, c, d] #[.int .u8 (240 + (n : Int) / 262144), .int .u8 (128 + (n : Int) / 4096 % 64), .int .u8 (128 + (n : Int) / 64 % 64), .int .u8 (128 + (n : Int) % 64)] 4 rfl (by rw [show 240 + (n : Int) / 262144 = (a.toNat : Int) by omega, show 128 + (n : Int) / 4096 % 64 = (b.toNat : Int) by omega, show 128 + (n : Int) / 64 % 64 = (c.toNat : Int) by omega, show 128 + (n : Int) % 64 = (d.toNat : Int) by omega]; rfl) W
    replace e := Lib.hid e
    have t1 : decide ((n : Int) < 128) = false := by simp; omega
    have t2 : decide ((n : Int) < 2048) = false := by simp; omega
    have t4 : decide ((n : Int) < 65536) = false := by simp; omega
    have t3 : (65536 : Int) ≤ (n : Int) := by omega
    have t5 : (n : Int) ≤ 1114111 := by omega
    clear h hg hg' h1 h2 h3 h4
    go_enter Tryz.func104, Tryz.ntmps104
    go_wp2_with fail
    go_ret
    exact ⟨by rw [e.out]; rfl, below_new _ _⟩
def TextRes (l : List UInt8) (w : World) (e : Ending) (w' : World) : Prop := e = .returned (.string ⟨l.toArray⟩) ∧ Below w.heap.size w w'
theorem text_next {l : List Int} {k : Nat} {x : Int} {S B : ByteArray} (hk : k < l.length) (hx : l[k] = x) (hS : S.data.toList = Dec.textL (l.take k)) (hB : B.data.toList = Lib.encodeRune (Dec.fix x)) : (S ++ B).data.toList = Dec.textL (l.take (k + 1)) := by
  rw [List.take_succ_eq_append_getElem hk, Dec.textL_snoc, hx, ← hS, ← hB]
  simp
set_option maxHeartbeats 1600000 in
theorem rtext_any (v0 : Value) (l : List Int) (w : World) (hlen : l.length ≤ 1000) (hr : RI w v0 l) :
    Calls Tryz.prog 113 #[v0] w (TextRes (Dec.textL l) w) := by
  obtain ⟨p, cap, rfl⟩ := ri_form hr
  have hp := Lib.hid (ri_at hr)
  replace hr := Lib.hid hr
  go_enter Tryz.func113, Tryz.ntmps113
  go_wp2_with fail
  go_loopg [3, 4] l.length (fun g v i wr => ∃ k : Nat, k ≤ l.length ∧ g = l.length - k ∧ i = .int .i64 k ∧ ∃ S : ByteArray, v = .string S ∧ Hid (S.data.toList = Dec.textL (l.take k)) ∧ Below w.heap.size w wr)
  case atStart => exact ⟨0, Nat.zero_le _, rfl, rfl, ⟨#[]⟩, rfl, Lib.hid rfl, Below.refl _ _⟩
  case round =>
    obtain ⟨k, hk, rfl, rfl, S, rfl, hS, hbel⟩ := hrel
    have hSs : S.size ≤ 4000 := by
      have h1 := Dec.textL_len (l.take k)
      rw [← hS.out] at h1
      have h2 : S.size = S.data.toList.length := rfl
      have h3 : (l.take k).length ≤ k := List.length_take_le _ _
      omega
    by_cases hlt : k < l.length
    · obtain ⟨x, hx⟩ : ∃ x, l[k] = x := ⟨_, rfl⟩
      obtain ⟨b, off, rfl, hb, hc⟩ := hp.out (by omega)
      have hcell : wr.cell? ⟨b, off + k, none⟩ = some (.int .i64 x) := by
        rw [hbel.cell hb, ← hx]
        exact hc k hlt
      clear hc
      replace hx := Lib.hid hx
      have hgood := rgood_any x wr
      have hform := form_any (Dec.fix x) (Dec.good_fix x)
      obtain ⟨B, hB⟩ : ∃ B : ByteArray, (⟨(Lib.encodeRune (Dec.fix x)).toArray⟩ : ByteArray) = B := ⟨_, rfl⟩
      have hF : Hid (B.data.toList = Lib.encodeRune (Dec.fix x)) := Lib.hid (by rw [← hB])
      have hBs : B.size ≤ 4 := by rw [← hB]; exact Dec.encodeRune_len _
      unfold FormRes at hform
      rw [hB] at hform
      clear hB
      replace hbel := Lib.hid hbel
      cases hG : Dec.goodB x with
      | true =>
        rw [hG] at hgood
        rw [Dec.fix_good hG] at hform
        replace hgood := Lib.hid hgood
        replace hform := Lib.hid hform
        clear hG
        go_wp2_with fail
        refine hgood.out.mono ?_
        rintro e w1 ⟨rfl, rfl⟩
        go_wp2_with fail
        refine (hform.out _).mono ?_
        rintro e w2 ⟨rfl, hb2⟩
        replace hb2 := Lib.hid (hbel.out.trans (hb2.mono hbel.out.size))
        go_wp2_with fail
        go_roundg (l.length - (k + 1))
        case measure => omega
        case rel => exact ⟨k + 1, by omega, rfl, by go_num, _, rfl, Lib.hid (text_next hlt hx.out hS.out hF.out), hb2.out⟩
      | false =>
        rw [hG] at hgood
        have hfx : Dec.fix x = 65533 := by unfold Dec.fix; rw [hG]; rfl
        rw [hfx] at hform
        replace hgood := Lib.hid hgood
        replace hform := Lib.hid hform
        clear hG hfx
        go_wp2_with fail
        refine hgood.out.mono ?_
        rintro e w1 ⟨rfl, rfl⟩
        go_wp2_with fail
        refine (hform.out _).mono ?_
        rintro e w2 ⟨rfl, hb2⟩
        replace hb2 := Lib.hid (hbel.out.trans (hb2.mono hbel.out.size))
        go_wp2_with fail
        go_roundg (l.length - (k + 1))
        case measure => omega
        case rel => exact ⟨k + 1, by omega, rfl, by go_num, _, rfl, Lib.hid (text_next hlt hx.out hS.out hF.out), hb2.out⟩
    · have hfin : Hid (S = ⟨(Dec.textL l).toArray⟩) := Lib.hid (by
        have h := hS.out
        rw [List.take_of_length_le (by omega)] at h
        rw [← h])
      replace hbel := Lib.hid hbel
      go_wp2_with fail
      go_ret
      exact ⟨by rw [← hfin.out]; rfl, hbel.out⟩
end Go.Proofs.YtiidjkhkcckmkaaGreatDoor.Tx

/- The document's answer for layer 1's Sane, Feed, End, All, for layers above (slices as G1 and G2 have them). -/
namespace Go.Proofs.YtiidjkhkcckmkaaGreatDoor.Tq
set_option linter.unusedSimpArgs false
set_option linter.unusedVariables false
open Go.RowKit Go.Lib Tx
theorem bne_nat_int' {a b : Nat} (h : a = b) : ((a : Int) != (b : Int)) = false := by subst h; simp
def Own (B : Nat) (v : Value) (l : List Int) (w : World) : Prop := w.ownsRow B 3 1 v l.length (l.map (Value.int .i64))
theorem own_nil (B : Nat) (w : World) : Own B (.slice none 0 0) [] w := World.ownsRow_nil w B 3 1
theorem own_one (B : Nat) (x : Int) (w : World) (hB : B ≤ w.heap.size) : Own B (.slice (some ⟨w.heap.size, 0, none⟩) 1 1) [x] (w.alloc (.cells #[.int .i64 x] 3)) :=
  ⟨rfl, .inr ⟨w.heap.size, 1, #[.int .i64 x], rfl, hB, heap_alloc_new w _, Nat.le_refl _, by decide, rfl, rfl⟩⟩
theorem empty_of_size {s : ByteArray} (h : s.size = 0) : s.toList.isEmpty = true := by
  rw [Lib.toList_data]
  cases s with
  | mk d =>
    have h' : d.size = 0 := h
    simpa using h'
theorem nonempty_of_size {s : ByteArray} (h : ¬ s.size = 0) : s.toList.isEmpty = false := by
  rw [Lib.toList_data]
  cases s with
  | mk d =>
    have h' : ¬ d.size = 0 := h
    simpa using h'
def Box (w : World) (k : Nat) (v : Value) : Prop := k < w.heap.size ∧ w.cell? ⟨k, 0, none⟩ = some v ∧ w.frozen? ⟨k, 0, none⟩ = false
theorem box_new (w : World) (v : Value) (T : TypeId) : Box (w.alloc (.cells #[v] T)) w.heap.size v := by
  refine ⟨by simp, ?_, ?_⟩
  · simp
  · simp
theorem box_alloc {w : World} {k : Nat} {v : Value} (h : Box w k v) (o : Obj) : Box (w.alloc o) k v := by
  obtain ⟨h0, h1, h2⟩ := h
  exact ⟨by simp; omega, by rw [World.cell?_alloc_lt _ _ _ h0]; exact h1, by rw [World.frozen?_alloc_past _ _ _ h0]; exact h2⟩
theorem box_below {w w1 : World} {k : Nat} {v : Value} (h : Box w k v) (hb : Below w.heap.size w w1) : Box w1 k v := by
  obtain ⟨h0, h1, h2⟩ := h
  have := hb.size
  exact ⟨by omega, by rw [hb.cell h0]; exact h1, by rw [hb.frozen h0]; exact h2⟩
theorem run_bytes1 (c : UInt8) (W : World) : (convert 59 9 (.slice (some ⟨W.heap.size, 0, none⟩) 1 1)).run Tryz.prog (W.alloc (.cells #[.int .u8 c.toNat] 5)) = .ok (.string ⟨#[c]⟩) (W.alloc (.cells #[.int .u8 c.toNat] 5)) := by
  refine run_convert_bytes_back (P := Tryz.prog) _ 59 9 5 ⟨W.heap.size, 0, none⟩ 1 [c] Tryz.underlying59 Tryz.underlying5 Tryz.underlying9 ?_
  intro j hj
  have : j = 0 := by simpa using hj
  subst this
  simp [Addr.add]
theorem below_two {w w1 : World} {o1 o2 : Obj} (hb1 : Below ((w.alloc o1).alloc o2).heap.size ((w.alloc o1).alloc o2) w1) : Below w.heap.size w w1 :=
  (((Below.refl _ _).alloc (Nat.le_refl _) _).alloc (by simp) _).trans (hb1.mono (by simp; omega))
theorem below_step {w w1 w2 : World} {o3 : Obj} (hb1 : Below w.heap.size w w1) (hb2 : Below (w1.alloc o3).heap.size (w1.alloc o3) w2) : Below w.heap.size w w2 :=
  (hb1.alloc hb1.size _).trans (hb2.mono (by have := hb1.size; simp; omega))
theorem own_one_at (B : Nat) (x : Int) (w : World) (k : Nat) (hk : w.heap.size = k) (hB : B ≤ w.heap.size) : Own B (.slice (some ⟨k, 0, none⟩) 1 1) [x] (w.alloc (.cells #[.int .i64 x] 3)) := by
  subst hk
  exact own_one B x w hB
theorem info_int : (Tryz.prog.info? 3).map (fun i => (i.zero, i.size, i.bytes)) = some (some (.int .i64 0), 1, 8) := by kernel_rfl
theorem own_alloc {B : Nat} {v : Value} {l : List Int} {w : World} (h : Own B v l w) (o : Obj) : Own B v l (w.alloc o) := World.ownsRow.alloc h o
theorem own_src {B : Nat} {v : Value} {l : List Int} {w : World} (h : Own B v l w) :
    (v = .slice none 0 0 ∧ l = []) ∨ ∃ g cap, v = .slice (some ⟨g, 0, none⟩) l.length cap ∧ B ≤ g ∧ g < w.heap.size ∧ ∀ j u, (l.map (Value.int .i64))[j]? = some u → w.cell? ((⟨g, 0, none⟩ : Addr).add j) = some u := by
  have hc := fun g hg => World.ownsRow.cells (g := g) h hg
  have hlt := World.ownsRow.lt h
  rcases h.2 with ⟨rfl, hl⟩ | ⟨g, cap, cur, rfl, hB, _⟩
  · exact .inl ⟨rfl, List.eq_nil_of_length_eq_zero hl⟩
  · exact .inr ⟨g, cap, rfl, hB, (hlt g rfl).2, hc g rfl⟩
theorem own_set {B : Nat} {v : Value} {l : List Int} {w : World} (h : Own B v l w) (a : Addr) (u : Value) (hne : v.ownBlock = none ∨ v.ownBlock ≠ some a.block) : Own B v l (w.setCell a u) := by
  refine World.ownsRow.kept (row := some a.block) h ⟨rfl, rfl, rfl, by simp [World.setCell], fun k _ hk => ?_⟩ hne
  exact Below.heap_setCell _ _ _ _ (fun e => hk (by rw [e]))
theorem ne_own {j k n c : Nat} (h : j ≠ k) : some j ≠ (Value.slice (some ⟨k, 0, none⟩) n c).ownBlock := by
  intro e
  exact h (Option.some.inj e)
theorem own_mono {B B' : Nat} {v : Value} {l : List Int} {w : World} (h : Own B' v l w) (hB : B ≤ B') : Own B v l w := by
  refine ⟨h.1, ?_⟩
  rcases h.2 with hn | ⟨g, cap, cur, hv, hg, r⟩
  · exact .inl hn
  · exact .inr ⟨g, cap, cur, hv, Nat.le_trans hB hg, r⟩
theorem own_ne {B k : Nat} {v : Value} {l : List Int} {w : World} (h : Own B v l w) (hk : k < B) : v.ownBlock = none ∨ v.ownBlock ≠ some k := by
  refine .inr fun e => ?_
  have := (World.ownsRow.lt h k e).1
  omega
theorem own_of_row {B n : Nat} {v : Value} {l : List Int} {xs : List Value} {w : World} (h : w.ownsRow B 3 1 v n xs) (hn : n = l.length) (hx : xs = l.map (Value.int .i64)) : Own B v l w := by
  subst hn
  subst hx
  exact h
theorem ints_oneCell (l : List Int) : ∀ u ∈ l.map (Value.int .i64), u.oneCell' = true := by
  intro u hu
  obtain ⟨x, _, rfl⟩ := List.mem_map.1 hu
  rfl
theorem box_set' {w : World} {k : Nat} {v : Value} (h : Box w k v) (a : Addr) (u : Value) (hne : a.block ≠ k) : Box (w.setCell a u) k v := by
  obtain ⟨h0, h1, h2⟩ := h
  refine ⟨by simpa using h0, ?_, by rw [World.frozen?_setCell]; exact h2⟩
  rw [World.cell?_setCell_other]
  · exact h1
  · intro e
    exact hne (by rw [e])
theorem box_set {w : World} {k : Nat} {v u : Value} (h : Box w k v) : Box (w.setCell ⟨k, 0, none⟩ u) k u :=
  ⟨by simpa using h.1, World.cell?_setCell_same _ _ _ h.2.1, by rw [World.frozen?_setCell]; exact h.2.2⟩
def HRes (x : Nat) (w : World) (e : Ending) (w' : World) : Prop := e = .returned (.tuple #[.int .i64 ((Dec.headN x).1 : Int), .int .i64 ((Dec.headN x).2 : Int)]) ∧ w = w'
theorem hres_mk {x : Nat} {a b : Nat} {a' b' : Int} {w : World} (h : Dec.headN x = (a, b)) (ha : a' = a) (hb : b' = b) : HRes x w (.returned (.tuple #[.int .i64 a', .int .i64 b'])) w := by
  unfold HRes
  rw [h, ha, hb]
  exact ⟨rfl, rfl⟩
set_option maxHeartbeats 800000 in
theorem head_any (x : Nat) (hx : x < 256) (w : World) :
    Calls Tryz.prog 101 #[.int .i64 (x : Int)] w (HRes x w) := by
  by_cases h1 : x < 128
  · have H := Lib.hid (Dec.head1 h1)
    have h1' : (x : Int) < 128 := by omega
    clear h1
    go_enter Tryz.func101, Tryz.ntmps101
    go_wp2_with fail
    go_ret2
    exact hres_mk H.out rfl rfl
  · have h1' : decide ((x : Int) < 128) = false := by simp; omega
    by_cases h2 : x < 192
    · have H : Hid (Dec.headN x = (0, 0)) := Lib.hid (by unfold Dec.headN; rw [if_neg h1, if_neg (by omega), if_neg (by omega), if_neg (by omega)])
      have h2' : decide ((192 : Int) ≤ (x : Int)) = false := by simp; omega
      have h3' : decide ((224 : Int) ≤ (x : Int)) = false := by simp; omega
      have h4' : decide ((240 : Int) ≤ (x : Int)) = false := by simp; omega
      go_enter Tryz.func101, Tryz.ntmps101
      go_wp2_with fail
      go_ret2
      exact hres_mk H.out rfl rfl
    · have h2' : (192 : Int) ≤ (x : Int) := by omega
      by_cases h3 : x < 224
      · have H := Lib.hid (Dec.head2 ⟨by omega, h3⟩)
        have h3' : (x : Int) < 224 := by omega
        go_enter Tryz.func101, Tryz.ntmps101
        go_wp2_with fail
        go_ret2
        exact hres_mk H.out rfl (by omega)
      · have h3' : decide ((x : Int) < 224) = false := by simp; omega
        have h3'' : (224 : Int) ≤ (x : Int) := by omega
        by_cases h4 : x < 240
        · have H := Lib.hid (Dec.head3 ⟨by omega, h4⟩)
          have h4' : (x : Int) < 240 := by omega
          go_enter Tryz.func101, Tryz.ntmps101
          go_wp2_with fail
          go_ret2
          exact hres_mk H.out rfl (by omega)
        · have h4' : decide ((x : Int) < 240) = false := by simp; omega
          have h4'' : (240 : Int) ≤ (x : Int) := by omega
          by_cases h5 : x < 248
          · have H := Lib.hid (Dec.head4 ⟨by omega, h5⟩)
            have h5' : (x : Int) < 248 := by omega
            go_enter Tryz.func101, Tryz.ntmps101
            go_wp2_with fail
            go_ret2
            exact hres_mk H.out rfl (by omega)
          · have h5' : decide ((x : Int) < 248) = false := by simp; omega
            have H : Hid (Dec.headN x = (0, 0)) := Lib.hid (by unfold Dec.headN; rw [if_neg h1, if_neg (by omega), if_neg (by omega), if_neg (by omega)])
            go_enter Tryz.func101, Tryz.ntmps101
            go_wp2_with fail
            go_ret2
            exact hres_mk H.out rfl rfl
theorem head_bound (x : Nat) (hx : x < 256) : (Dec.headN x).1 ≤ 4 ∧ (Dec.headN x).2 < 128 := by
  unfold Dec.headN
  repeat' split
  all_goals simp <;> omega
theorem valK_bound (l : List UInt8) (rest v0 : Nat) (hr : rest < 64) (hv : v0 < 128) (k : Nat) (hk : k ≤ 3) : Dec.valK l rest v0 k < 33554432 := by
  have key : ∀ k, Dec.valK l rest v0 k < 128 * 64 ^ k := by
    intro k
    induction k with
    | zero => simpa [Dec.valK] using hv
    | succ k ih =>
      unfold Dec.valK
      have h1 : (if k + 1 < l.length then Dec.nb l (k + 1) % 64 else rest) < 64 := by split <;> omega
      rw [Nat.pow_succ]
      omega
  have h := key k
  have h2 : 64 ^ k ≤ 64 ^ 3 := Nat.pow_le_pow_right (by decide) hk
  omega
theorem str_get {s : ByteArray} {l : List UInt8} (hl : s.data.toList = l) (k : Nat) (hk : k < l.length) : ∃ h : k < s.size, s[k] = l[k] := by
  subst hl
  refine ⟨by simpa using hk, ?_⟩
  rfl
set_option maxHeartbeats 800000 in
theorem value_any (s : ByteArray) (l : List UInt8) (hl : s.data.toList = l) (h0 : 0 < l.length) (h4 : l.length ≤ 4) (rest : Nat) (hr : rest < 64) (w : World) :
    Calls Tryz.prog 102 #[.string s, .int .i64 (rest : Int)] w fun e w' => e = .returned (.int .i64 (Dec.valN l rest : Int)) ∧ w = w' := by
  have hsz : s.size = l.length := by subst hl; rfl
  obtain ⟨hs0, e0⟩ := str_get hl 0 h0
  obtain ⟨x0, hx0⟩ : ∃ x0, l[0] = x0 := ⟨_, rfl⟩
  rw [hx0] at e0
  have hnb : Dec.nb l 0 = x0.toNat := by unfold Dec.nb; rw [List.getD_eq_getElem?_getD, List.getElem?_eq_getElem h0, hx0]; rfl
  have hb0 := x0.toNat_lt
  have hb0' : (x0.toNat : Int) < 256 := by omega
  obtain ⟨hn4, hv128⟩ := head_bound x0.toNat hb0
  have hhead := head_any x0.toNat hb0
  obtain ⟨n, hn⟩ : ∃ n, (Dec.headN x0.toNat).1 = n := ⟨_, rfl⟩
  obtain ⟨v0, hv0⟩ : ∃ v0, (Dec.headN x0.toNat).2 = v0 := ⟨_, rfl⟩
  unfold HRes at hhead
  rw [hn] at hn4
  rw [hv0] at hv128
  rw [hn, hv0] at hhead
  have hres : Dec.valN l rest = Dec.valK l rest v0 (n - 1) := by unfold Dec.valN; rw [hnb, hn, hv0]
  rw [hres]
  replace hhead := Lib.hid hhead
  replace hl := Lib.hid hl
  have hszN : s.size ≤ 4 := by omega
  replace hsz := Lib.hid hsz
  clear hres hn hv0 hnb hb0 hx0 h0 h4
  go_enter Tryz.func102, Tryz.ntmps102
  go_wp2_with fail
  refine (hhead.out _).mono ?_
  rintro e w1 ⟨rfl, rfl⟩
  go_wp2_with fail
  go_loopg [6, 7] 5 (fun g v i wr => w = wr ∧ ∃ j : Nat, i = .int .i64 (j : Int) ∧ 1 ≤ j ∧ j ≤ n - 1 + 1 ∧ g = 6 - j ∧ ∃ V : Nat, v = .int .i64 (V : Int) ∧ Hid (Dec.valK l rest v0 (j - 1) = V))
  case atStart => exact ⟨rfl, 1, rfl, Nat.le_refl _, by omega, rfl, v0, rfl, Lib.hid rfl⟩
  case round =>
    obtain ⟨rfl, j, rfl, hj1, hjn, rfl, V, rfl, hV⟩ := hrel
    have hVb : (V : Int) < 33554432 := by have := valK_bound l rest v0 hr hv128 (j - 1) (by omega); rw [hV.out] at this; omega
    by_cases hlt : j < n
    · have hstep : Dec.valK l rest v0 j = V * 64 + (if j < l.length then Dec.nb l j % 64 else rest) := by
        obtain ⟨m, rfl⟩ : ∃ m, j = m + 1 := ⟨j - 1, by omega⟩
        show Dec.valK l rest v0 m * 64 + _ = _
        rw [show Dec.valK l rest v0 m = V from hV.out]
      clear hV
      by_cases hj : j < l.length
      · obtain ⟨hsj, ej⟩ := str_get hl.out j hj
        obtain ⟨x, hx⟩ : ∃ x, l[j] = x := ⟨_, rfl⟩
        rw [hx] at ej
        rw [if_pos hj, show Dec.nb l j = x.toNat by unfold Dec.nb; rw [List.getD_eq_getElem?_getD, List.getElem?_eq_getElem hj, hx]; rfl] at hstep
        have hxb : (x.toNat : Int) < 256 := by have := x.toNat_lt; omega
        replace hx := Lib.hid hx
        replace hstep := Lib.hid hstep
        go_wp2_with fail
        go_roundg (6 - (j + 1))
        case measure => omega
        case rel => exact ⟨rfl, j + 1, by go_num, by omega, by omega, rfl, V * 64 + x.toNat % 64, by congr 1, Lib.hid hstep.out⟩
      · rw [if_neg hj] at hstep
        have hsj' : decide (j < s.size) = false := by have := hsz.out; simp; omega
        replace hstep := Lib.hid hstep
        go_wp2_with fail
        go_roundg (6 - (j + 1))
        case measure => omega
        case rel => exact ⟨rfl, j + 1, by go_num, by omega, by omega, rfl, V * 64 + rest, by congr 1, Lib.hid hstep.out⟩
    · have hlt' : decide (j < n) = false := by simp; omega
      have hV2 : Dec.valK l rest v0 (n - 1) = V := by rw [← hV.out]; congr 1; omega
      replace hV2 := Lib.hid hV2
      clear hV
      go_wp2_with fail
      go_ret
      exact ⟨by rw [hV2.out]; rfl, rfl⟩
def WholeRes (l : List UInt8) (w : World) (e : Ending) (w' : World) : Prop :=
  ∃ v ok, e = .returned (.tuple #[.int .i64 v, .bool ok]) ∧ (ok = true → Dec.wholeP l ∧ v = (Dec.valN l 0 : Int)) ∧ (ok = false → ¬ Dec.wholeP l) ∧ Below w.heap.size w w'
theorem whole_res_no {l : List UInt8} {w w' : World} {v : Int} (h : ¬ Dec.wholeP l) (hb : Below w.heap.size w w') : WholeRes l w (.returned (.tuple #[.int .i64 v, .bool false])) w' :=
  ⟨v, false, rfl, (fun h => by cases h), (fun _ => h), hb⟩
theorem nb_first {l : List UInt8} (h0 : 0 < l.length) : Dec.nb l 0 = l[0].toNat := by unfold Dec.nb; rw [List.getD_eq_getElem?_getD, List.getElem?_eq_getElem h0]; rfl
set_option maxHeartbeats 1600000 in
theorem whole_any (s : ByteArray) (l : List UInt8) (hl : s.data.toList = l) (h0 : 0 < l.length) (h4 : l.length ≤ 4) (w : World) :
    Calls Tryz.prog 64 #[.string s] w (WholeRes l w) := by
  have hsz : s.size = l.length := by subst hl; rfl
  obtain ⟨hs0, e0⟩ := str_get hl 0 h0
  have hnb := nb_first h0
  obtain ⟨x0, hx0⟩ : ∃ x0, l[0] = x0 := ⟨_, rfl⟩
  rw [hx0] at e0 hnb
  have hb0 := x0.toNat_lt
  have hb0' : (x0.toNat : Int) < 256 := by omega
  have hn4 := (head_bound x0.toNat hb0).1
  have hhead := head_any x0.toNat hb0
  have hz : ((s.size : Int) == 0) = false := beq_eq_false_iff_ne.2 (by omega)
  have hval := value_any s l hl h0 h4 0 (by decide)
  unfold HRes at hhead
  obtain ⟨n, hn⟩ : ∃ n, (Dec.headN x0.toNat).1 = n := ⟨_, rfl⟩
  rw [hn] at hhead hn4
  have hnn : (Dec.headN (Dec.nb l 0)).1 = n := by rw [hnb, hn]
  replace hhead := Lib.hid hhead
  have hszN : s.size ≤ 4 := by omega
  by_cases hne : n = s.size
  · have t1 := bne_nat_int' hne
    have hwp : Dec.wholeP l ↔ Dec.goodB (Dec.valN l 0 : Int) = true ∧ Lib.encodeRune (Dec.valN l 0 : Int) = l := by
      unfold Dec.wholeP
      constructor
      · exact fun h => h.2.2
      · exact fun h => ⟨by intro e; rw [e] at h0; simp at h0, by rw [hnn]; omega, h⟩
    obtain ⟨V, hV⟩ : ∃ V : Int, (Dec.valN l 0 : Int) = V := ⟨_, rfl⟩
    rw [hV] at hwp
    replace hval : ∀ w, Calls Tryz.prog 102 #[.string s, .int .i64 0] w fun e w' => e = .returned (.int .i64 V) ∧ w = w' := fun w => by rw [← hV]; exact hval w
    have hgood := rgood_any V
    cases hG : Dec.goodB V with
    | false =>
      rw [hG] at hgood
      have hno : Hid (¬ Dec.wholeP l) := Lib.hid (by rw [hwp, hG]; simp)
      replace hval := Lib.hid hval
      replace hgood := Lib.hid hgood
      clear hwp hG hV hnn hn hnb hx0 hl h0 h4 hsz hne
      go_enter Tryz.func64, Tryz.ntmps64
      go_wp2_with fail
      refine (hhead.out _).mono ?_
      rintro e w1 ⟨rfl, rfl⟩
      go_wp2_with fail
      refine (hval.out _).mono ?_
      rintro e w1 ⟨rfl, rfl⟩
      go_wp2_with fail
      refine (hgood.out _).mono ?_
      rintro e w1 ⟨rfl, rfl⟩
      go_wp2_with fail
      go_ret2
      exact whole_res_no hno.out (Below.refl _ _)
    | true =>
      rw [hG] at hgood
      have hform := Lib.hid (form_any V hG)
      replace hval := Lib.hid hval
      replace hgood := Lib.hid hgood
      rw [hG] at hwp
      replace hwp := Lib.hid hwp
      replace hV := Lib.hid hV
      replace hl := Lib.hid hl
      clear hG hnn hn hnb hx0 h0 h4 hsz hne
      go_enter Tryz.func64, Tryz.ntmps64
      go_wp2_with fail
      refine (hhead.out _).mono ?_
      rintro e w1 ⟨rfl, rfl⟩
      go_wp2_with fail
      refine (hval.out _).mono ?_
      rintro e w1 ⟨rfl, rfl⟩
      go_wp2_with fail
      refine (hgood.out _).mono ?_
      rintro e w1 ⟨rfl, rfl⟩
      go_wp2_with fail
      refine (hform.out _).mono ?_
      rintro e w2 ⟨rfl, hb2⟩
      replace hb2 := Lib.hid hb2
      go_wp2_with fail
      go_ret2
      have hts : s.toList = l := by rw [Lib.toList_data]; exact hl.out
      refine ⟨V, (Lib.encodeRune V == s.toList), rfl, fun h => ?_, fun h => ?_, hb2.out⟩
      · rw [hts] at h
        exact ⟨hwp.out.2 ⟨trivial, eq_of_beq h⟩, hV.out.symm⟩
      · rw [hts] at h
        intro hw
        rw [(hwp.out.1 hw).2] at h
        simp at h
  · have t1 : ((n : Int) != (s.size : Int)) = true := bne_iff_ne.2 (by omega)
    have hno : Hid (¬ Dec.wholeP l) := Lib.hid (fun h => by have := h.2.1; rw [hnn] at this; omega)
    clear hval hnn hn hnb hx0 hl h0 h4 hsz hne
    go_enter Tryz.func64, Tryz.ntmps64
    go_wp2_with fail
    refine (hhead.out _).mono ?_
    rintro e w1 ⟨rfl, rfl⟩
    go_wp2_with fail
    go_ret2
    exact whole_res_no hno.out (Below.refl _ _)
theorem cands_cell (w : World) (lo hi : Nat) (t : TypeId) (k : Nat) (hk : k < 8) :
    (w.alloc (.cells #[.int .i64 (lo : Int), .int .i64 (hi : Int), .int .i64 128, .int .i64 2048, .int .i64 65536, .int .i64 55295, .int .i64 57344, .int .i64 1114111] t)).cell? ⟨w.heap.size, k, none⟩ = some (.int .i64 ((Dec.cands lo hi)[k]'hk)) := by
  rcases (by omega : k = 0 ∨ k = 1 ∨ k = 2 ∨ k = 3 ∨ k = 4 ∨ k = 5 ∨ k = 6 ∨ k = 7) with rfl | rfl | rfl | rfl | rfl | rfl | rfl | rfl <;> simp [Dec.cands]
theorem any_next {l : List UInt8} {lo hi n k : Nat} {x : Int} (hk : k < 8) (hx : (Dec.cands lo hi)[k]'hk = x) (h : ((Dec.cands lo hi).take k).any (Dec.candB l lo hi n) = false) (hc : Dec.candB l lo hi n x = false) :
    ((Dec.cands lo hi).take (k + 1)).any (Dec.candB l lo hi n) = false := by
  rw [List.take_succ_eq_append_getElem hk, List.any_append, h, hx]
  simp [hc]
theorem any_yes {l : List UInt8} {lo hi n k : Nat} {x : Int} (hk : k < 8) (hx : (Dec.cands lo hi)[k]'hk = x) (hc : Dec.candB l lo hi n x = true) : (Dec.cands lo hi).any (Dec.candB l lo hi n) = true :=
  List.any_eq_true.2 ⟨x, by rw [← hx]; exact List.getElem_mem hk, hc⟩
theorem cand_no1 {l : List UInt8} {lo hi n : Nat} {x : Int} (h : ¬ (lo : Int) ≤ x) : Dec.candB l lo hi n x = false := by unfold Dec.candB; simp [h]
theorem cand_no2 {l : List UInt8} {lo hi n : Nat} {x : Int} (h : ¬ x ≤ (hi : Int)) : Dec.candB l lo hi n x = false := by unfold Dec.candB; simp [h]
theorem cand_no3 {l : List UInt8} {lo hi n : Nat} {x : Int} (h : Dec.goodB x = false) : Dec.candB l lo hi n x = false := by unfold Dec.candB; simp [h]
theorem cand_no4 {l : List UInt8} {lo hi n : Nat} {x : Int} (h : ¬ (Lib.encodeRune x).length = n) : Dec.candB l lo hi n x = false := by unfold Dec.candB; simp [h]
theorem cand_no5 {l : List UInt8} {lo hi n : Nat} {x : Int} (h : ¬ (Lib.encodeRune x).take l.length = l) : Dec.candB l lo hi n x = false := by unfold Dec.candB; simp [h]
theorem cand_yes {l : List UInt8} {lo hi n : Nat} {x : Int} (h1 : (lo : Int) ≤ x) (h2 : x ≤ (hi : Int)) (h3 : Dec.goodB x = true) (h4 : (Lib.encodeRune x).length = n) (h5 : (Lib.encodeRune x).take l.length = l) : Dec.candB l lo hi n x = true := by unfold Dec.candB; simp [h1, h2, h3, h4, h5]
def BegRes (l : List UInt8) (w : World) (e : Ending) (w' : World) : Prop := e = .returned (.bool (Dec.begL l)) ∧ Below w.heap.size w w'
set_option maxHeartbeats 3200000 in
theorem rbegins_any (s : ByteArray) (l : List UInt8) (hl : s.data.toList = l) (hm : l.length ≤ 1000) (w : World) :
    Calls Tryz.prog 65 #[.string s] w (BegRes l w) := by
  have hsz : s.size = l.length := by subst hl; rfl
  by_cases h0 : l.length = 0
  · have hB : Hid (Dec.begL l = false) := Lib.hid (by rw [List.eq_nil_of_length_eq_zero h0]; rfl)
    have hz : ((s.size : Int) == 0) = true := beq_iff_eq.2 (by omega)
    clear h0 hsz hl
    go_enter Tryz.func65, Tryz.ntmps65
    go_wp2_with fail
    go_ret
    exact ⟨by rw [hB.out]; rfl, Below.refl _ _⟩
  have hz : ((s.size : Int) == 0) = false := beq_eq_false_iff_ne.2 (by omega)
  by_cases h3 : 3 < l.length
  · have hB : Hid (Dec.begL l = false) := Lib.hid (Dec.beg4 l (by omega))
    have h3' : (3 : Int) < (s.size : Int) := by omega
    clear h3 h0 hsz hl
    go_enter Tryz.func65, Tryz.ntmps65
    go_wp2_with fail
    go_ret
    exact ⟨by rw [hB.out]; rfl, Below.refl _ _⟩
  have h3' : decide ((3 : Int) < (s.size : Int)) = false := by simp; omega
  have hpos : 0 < l.length := by omega
  obtain ⟨hs0, e0⟩ := str_get hl 0 hpos
  have hnb := nb_first hpos
  obtain ⟨x0, hx0⟩ : ∃ x0, l[0] = x0 := ⟨_, rfl⟩
  rw [hx0] at e0 hnb
  have hb0 := x0.toNat_lt
  have hb0' : (x0.toNat : Int) < 256 := by omega
  have hn4 := (head_bound x0.toNat hb0).1
  have hhead := head_any x0.toNat hb0
  have hval := value_any s l hl hpos (by omega) 0 (by decide)
  have hval2 := value_any s l hl hpos (by omega) 63 (by decide)
  unfold HRes at hhead
  obtain ⟨n, hn⟩ : ∃ n, (Dec.headN x0.toNat).1 = n := ⟨_, rfl⟩
  rw [hn] at hhead hn4
  have hnn : (Dec.headN (Dec.nb l 0)).1 = n := by rw [hnb, hn]
  have hszN : s.size ≤ 3 := by omega
  replace hhead := Lib.hid hhead
  obtain ⟨lo, hlo⟩ : ∃ lo, Dec.valN l 0 = lo := ⟨_, rfl⟩
  obtain ⟨hi, hhi⟩ : ∃ hi, Dec.valN l 63 = hi := ⟨_, rfl⟩
  rw [hlo] at hval
  rw [hhi] at hval2
  have hR : Dec.begL l = (decide (l.length < n) && (Dec.cands lo hi).any (Dec.candB l lo hi n)) := by
    rw [← Dec.begR_eq]
    unfold Dec.begR
    rw [hnn, hlo, hhi]
    have e1 : decide (l.length ≠ 0) = true := decide_eq_true h0
    have e2 : decide (l.length ≤ 3) = true := decide_eq_true (by omega)
    rw [e1, e2]
    rfl
  replace hval := Lib.hid hval
  replace hval2 := Lib.hid hval2
  clear hlo hhi hnn hn hnb hx0 h0 h3
  by_cases hlt : n ≤ l.length
  · have t1 : n ≤ s.size := by omega
    have hB : Hid (Dec.begL l = false) := Lib.hid (by rw [hR, decide_eq_false (by omega)]; rfl)
    clear hR hlt hsz hl hpos
    go_enter Tryz.func65, Tryz.ntmps65
    go_wp2_with fail
    refine (hhead.out _).mono ?_
    rintro e w1 ⟨rfl, rfl⟩
    go_wp2_with fail
    go_ret
    exact ⟨by rw [hB.out]; rfl, Below.refl _ _⟩
  · have t1 : decide (n ≤ s.size) = false := by simp; omega
    have hln : l.length < n := by omega
    rw [decide_eq_true hln, Bool.true_and] at hR
    replace hR := Lib.hid hR
    have hsn : s.size < n := by omega
    replace hsz := Lib.hid hsz
    replace hl := Lib.hid hl
    clear hlt hln hpos
    go_enter Tryz.func65, Tryz.ntmps65
    go_wp2_with fail
    refine (hhead.out _).mono ?_
    rintro e w1 ⟨rfl, rfl⟩
    go_wp2_with fail
    refine (hval.out _).mono ?_
    rintro e w1 ⟨rfl, rfl⟩
    go_wp2_with fail
    refine (hval2.out _).mono ?_
    rintro e w1 ⟨rfl, rfl⟩
    go_wp2_with fail
    have hcells := Lib.hid (cands_cell w lo hi 3)
    have hbel0 := Lib.hid (below_new w (.cells #[.int .i64 (lo : Int), .int .i64 (hi : Int), .int .i64 128, .int .i64 2048, .int .i64 65536, .int .i64 55295, .int .i64 57344, .int .i64 1114111] 3))
    obtain ⟨W, hW⟩ : ∃ W, w.alloc (.cells #[.int .i64 (lo : Int), .int .i64 (hi : Int), .int .i64 128, .int .i64 2048, .int .i64 65536, .int .i64 55295, .int .i64 57344, .int .i64 1114111] 3) = W := ⟨_, rfl⟩
    have hWs : w.heap.size < W.heap.size := by rw [← hW]; simp
    rw [hW] at hcells hbel0 ⊢
    clear hW
    go_loopg [8, 9] 8 (fun g i f wr => ∃ k : Nat, k ≤ 8 ∧ g = 8 - k ∧ i = .int .i64 k ∧ Below W.heap.size W wr ∧ Hid (((Dec.cands lo hi).take k).any (Dec.candB l lo hi n) = false))
    case atStart => exact ⟨0, by omega, rfl, rfl, Below.refl _ _, Lib.hid rfl⟩
    case round =>
      obtain ⟨k, hk, rfl, rfl, hbel, hno⟩ := hrel
      by_cases hk8 : k < 8
      · have hk8' : (k : Int) < 8 := by omega
        obtain ⟨x, hx⟩ : ∃ x, (Dec.cands lo hi)[k]'hk8 = x := ⟨_, rfl⟩
        have hcell : wr.cell? ⟨w.heap.size, k, none⟩ = some (.int .i64 x) := by rw [hbel.cell hWs, hcells.out k hk8, hx]
        replace hx := Lib.hid hx
        by_cases c1 : (lo : Int) ≤ x
        case neg =>
          have hn' := Lib.hid (any_next hk8 hx.out hno.out (cand_no1 c1))
          have c1' : decide ((lo : Int) ≤ x) = false := by simp; omega
          go_wp2_with fail
          go_roundg (8 - (k + 1))
          case measure => omega
          case rel => exact ⟨k + 1, by omega, rfl, by go_num, hbel, hn'⟩
        by_cases c2 : x ≤ (hi : Int)
        case neg =>
          have hn' := Lib.hid (any_next hk8 hx.out hno.out (cand_no2 c2))
          have c2' : decide (x ≤ (hi : Int)) = false := by simp; omega
          go_wp2_with fail
          go_roundg (8 - (k + 1))
          case measure => omega
          case rel => exact ⟨k + 1, by omega, rfl, by go_num, hbel, hn'⟩
        have hgood := rgood_any x wr
        cases hG : Dec.goodB x with
        | false =>
          have hn' := Lib.hid (any_next hk8 hx.out hno.out (cand_no3 hG))
          rw [hG] at hgood
          replace hgood := Lib.hid hgood
          clear hG
          go_wp2_with fail
          refine hgood.out.mono ?_
          rintro e w1 ⟨rfl, rfl⟩
          go_wp2_with fail
          go_roundg (8 - (k + 1))
          case measure => omega
          case rel => exact ⟨k + 1, by omega, rfl, by go_num, hbel, hn'⟩
        | true =>
          rw [hG] at hgood
          replace hgood := Lib.hid hgood
          have hform := Lib.hid (form_any x hG wr)
          replace hG := Lib.hid hG
          obtain ⟨B, hB⟩ : ∃ B : ByteArray, (⟨(Lib.encodeRune x).toArray⟩ : ByteArray) = B := ⟨_, rfl⟩
          have hF : Hid (B.data.toList = Lib.encodeRune x) := Lib.hid (by rw [← hB])
          have hBl : B.size = (Lib.encodeRune x).length := by rw [← hB]; rfl
          replace hBl := Lib.hid hBl
          unfold FormRes at hform
          rw [hB] at hform
          clear hB
          go_wp2_with fail
          refine hgood.out.mono ?_
          rintro e w1 ⟨rfl, rfl⟩
          go_wp2_with fail
          refine hform.out.mono ?_
          rintro e w2 ⟨rfl, hb2⟩
          replace hbel := Lib.hid (hbel.trans (hb2.mono hbel.size))
          clear hb2
          by_cases c4 : B.size = n
          case neg =>
            have hn' := Lib.hid (any_next hk8 hx.out hno.out (cand_no4 (by rw [← hBl.out]; exact c4)))
            have c4' := bne_nat_int c4
            go_wp2_with fail
            go_roundg (8 - (k + 1))
            case measure => omega
            case rel => exact ⟨k + 1, by omega, rfl, by go_num, hbel.out, hn'⟩
          have c4' := beq_nat_int c4
          have hFs : s.size ≤ B.size := by omega
          have c4h := Lib.hid c4
          clear c4
          have hts : s.toList = l := by rw [Lib.toList_data]; exact hl.out
          have hxt : (B.extract 0 s.size).toList = (Lib.encodeRune x).take l.length := by rw [Lib.toList_data, Lib.extract_data, ← hF.out, ← hsz.out]; simp
          by_cases c5 : (Lib.encodeRune x).take l.length = l
          · have hyes := Lib.hid (any_yes hk8 hx.out (cand_yes (l := l) (lo := lo) (hi := hi) (n := n) c1 c2 hG.out (by rw [← hBl.out]; exact c4h.out) c5))
            have c5' : ((B.extract 0 s.size).toList == s.toList) = true := by rw [hts, hxt, c5]; exact beq_self_eq_true _
            replace c5 := Lib.hid c5
            clear hts hxt
            go_wp2_with fail
            go_ret
            exact ⟨by rw [hR.out, hyes.out]; rfl, hbel0.out.trans (hbel.out.mono hbel0.out.size)⟩
          · have hn' := Lib.hid (any_next hk8 hx.out hno.out (cand_no5 (l := l) (lo := lo) (hi := hi) (n := n) c5))
            have c5' : ((B.extract 0 s.size).toList == s.toList) = false := by rw [hts, hxt]; exact beq_eq_false_iff_ne.2 c5
            replace c5 := Lib.hid c5
            clear hts hxt
            go_wp2_with fail
            go_roundg (8 - (k + 1))
            case measure => omega
            case rel => exact ⟨k + 1, by omega, rfl, by go_num, hbel.out, hn'⟩
      · obtain rfl : k = 8 := by omega
        have hno' : Hid (Dec.begL l = false) := Lib.hid (by rw [hR.out]; exact hno.out)
        clear hno
        go_wp2_with fail
        go_ret
        exact ⟨by rw [hno'.out]; rfl, hbel0.out.trans (hbel.mono hbel0.out.size)⟩
theorem saneL_cases (l : List UInt8) : Dec.saneL l = (decide (l.length = 0) || Dec.begL l) := rfl
def BoolRes (q : Bool) (w : World) (e : Ending) (w' : World) : Prop := e = .returned (.bool q) ∧ Below w.heap.size w w'
set_option maxHeartbeats 400000 in
theorem rsane_any (s : ByteArray) (l : List UInt8) (hl : s.data.toList = l) (hm : l.length ≤ 1000) (w : World) :
    Calls Tryz.prog 51 #[.agg #[.string s]] w (BoolRes (Dec.saneL l) w) := by
  have hsz : s.size = l.length := by subst hl; rfl
  by_cases h0 : s.size = 0
  · have hs := empty_of_size h0
    have hres := Lib.hid (show Dec.saneL l = true by rw [saneL_cases, decide_eq_true (by omega)]; rfl)
    clear h0 hsz
    go_enter Tryz.func51, Tryz.ntmps51
    go_wp2_with fail
    go_ret
    exact ⟨ret_bool hres.out.symm, below_new _ _⟩
  · have hs := nonempty_of_size h0
    have hb := Lib.hid (rbegins_any s l hl hm)
    have hres := Lib.hid (show Dec.saneL l = Dec.begL l by rw [saneL_cases, decide_eq_false (by omega)]; rfl)
    clear h0 hsz hl hm
    go_enter Tryz.func51, Tryz.ntmps51
    go_wp2_with fail
    refine (hb.out _).mono ?_
    rintro e w1 ⟨rfl, hb1⟩
    go_wp2_with fail
    go_ret
    exact ⟨ret_bool hres.out.symm, below_in hb1⟩
def IntsRes (l : List Int) (w : World) (e : Ending) (w' : World) : Prop := ∃ v, e = .returned v ∧ Own w.heap.size v l w' ∧ Below w.heap.size w w'
set_option maxHeartbeats 800000 in
theorem rend_any (s : ByteArray) (l : List UInt8) (hl : s.data.toList = l) (hm : l.length ≤ 1000) (w : World) :
    Calls Tryz.prog 44 #[.agg #[.string s]] w (IntsRes (Dec.endLL l) w) := by
  have hsz : s.size = l.length := by subst hl; rfl
  have hsn := rsane_any s l hl hm
  unfold BoolRes at hsn
  cases hS : Dec.saneL l with
  | false =>
    rw [hS] at hsn
    replace hsn := Lib.hid hsn
    have hE : Hid (Dec.endLL l = []) := Lib.hid (by
      unfold Dec.endLL
      rw [if_neg]
      intro h
      rw [Dec.saneL_beg h] at hS
      cases hS)
    clear hS hsz
    go_enter Tryz.func44, Tryz.ntmps44
    go_wp2_with fail
    refine (hsn.out _).mono ?_
    rintro e w1 ⟨rfl, hb1⟩
    go_wp2_with fail
    go_ret
    exact ⟨_, rfl, by rw [hE.out]; exact own_nil _ _, below_in hb1⟩
  | true =>
    rw [hS] at hsn
    replace hsn := Lib.hid hsn
    by_cases h0 : s.size = 0
    · have hs := empty_of_size h0
      have hE : Hid (Dec.endLL l = []) := Lib.hid (by rw [List.eq_nil_of_length_eq_zero (show l.length = 0 by omega)]; rfl)
      clear hS hsz h0
      go_enter Tryz.func44, Tryz.ntmps44
      go_wp2_with fail
      refine (hsn.out _).mono ?_
      rintro e w1 ⟨rfl, hb1⟩
      obtain ⟨z0, q0, r0⟩ := box_below (box_new w (.string s) _) hb1
      replace hb1 := Lib.hid hb1
      go_wp2_with fail
      go_ret
      exact ⟨_, rfl, by rw [hE.out]; exact own_nil _ _, below_in hb1.out⟩
    · have hs := nonempty_of_size h0
      have hE : Hid (Dec.endLL l = [65533]) := Lib.hid (by
        have h1 : Dec.begL l = true := by
          rw [saneL_cases, decide_eq_false (by omega)] at hS
          exact hS
        unfold Dec.endLL
        rw [if_pos h1])
      clear hS hsz h0
      go_enter Tryz.func44, Tryz.ntmps44
      go_wp2_with fail
      refine (hsn.out _).mono ?_
      rintro e w1 ⟨rfl, hb1⟩
      obtain ⟨z0, q0, r0⟩ := box_below (box_new w (.string s) _) hb1
      replace hb1 := Lib.hid hb1
      go_wp2_with fail
      go_ret
      have hb2 := below_in hb1.out
      exact ⟨_, rfl, by rw [hE.out]; exact own_one _ _ _ hb2.size, hb2.alloc hb2.size _⟩
def RFeedRes (t : List UInt8) (m : List Int) (w : World) (e : Ending) (w' : World) : Prop :=
  ∃ (T : ByteArray) (v : Value), e = .returned (.tuple #[.agg #[.string T], v]) ∧ T.data.toList = t ∧ Own w.heap.size v m w' ∧ Below w.heap.size w w'
def FeedMid (w : World) (p : ByteArray) (wx : World) : Prop := Box wx w.heap.size (.string p) ∧ Box wx (w.heap.size + 1) (.string ⟨#[]⟩) ∧ Below w.heap.size w wx
theorem own_Src {B : Nat} {v : Value} {l : List Int} {w : World} (h : Own B v l w) : Src w v (l.map (Value.int .i64)) := by
  rcases own_src h with ⟨rfl, rfl⟩ | ⟨g, cap, rfl, _, _, hc⟩
  · exact .inl ⟨rfl, rfl⟩
  · exact .inr ⟨⟨g, 0, none⟩, cap, by rw [List.length_map], hc⟩
theorem box_grown0 {w w1 : World} {k : Nat} {v : Value} {row : Option Nat} (h : Box w k v) (hg : w.grownBy w1 row) (hne : some k ≠ row) : Box w1 k v := by
  obtain ⟨h0, h1, h2⟩ := h
  have hb := hg.block k h0 hne
  have := hg.size
  exact ⟨Nat.lt_of_lt_of_le h0 this, by rw [World.cell?_of_block (w := w) hb]; exact h1, by rw [World.frozen?_of_block (w := w) hb]; exact h2⟩
set_option maxHeartbeats 1600000 in
theorem rfeed_step (s : ByteArray) (l : List UInt8) (hl : s.data.toList = l) (hm : l.length ≤ 1000) (c : UInt8) (w : World)
    (hrec : l ≠ [] → Dec.saneL l = true → ∀ w, Calls Tryz.prog 34 #[.agg #[.string ⟨#[]⟩], .int .u8 c.toNat] w (RFeedRes (Dec.feedL [] c).1 (Dec.feedL [] c).2 w)) :
    Calls Tryz.prog 34 #[.agg #[.string s], .int .u8 c.toNat] w (RFeedRes (Dec.feedL l c).1 (Dec.feedL l c).2 w) := by
  have hsn := rsane_any s l hl hm
  unfold BoolRes at hsn
  have hcv := run_bytes1 c
  obtain ⟨p, pl, hp, hpl, hps, hpeq, hpm⟩ : ∃ (p : ByteArray) (pl : List UInt8), p.data.toList = pl ∧ ((Dec.saneL l = true ∧ p = s ∧ pl = l) ∨ (Dec.saneL l = false ∧ p = ⟨#[]⟩ ∧ pl = [])) ∧ Dec.saneL pl = true ∧ Dec.feedL l c = Dec.feedL pl c ∧ pl.length ≤ 3 := by
    cases hS : Dec.saneL l with
    | true =>
      refine ⟨s, l, hl, .inl ⟨rfl, rfl, rfl⟩, hS, rfl, ?_⟩
      rw [saneL_cases] at hS
      rcases Bool.or_eq_true_iff.1 hS with h | h
      · have := of_decide_eq_true h; omega
      · exact (Dec.beg_len h).2
    | false => exact ⟨⟨#[]⟩, [], rfl, .inr ⟨rfl, rfl, rfl⟩, rfl, Dec.feedL_ins hS, by simp⟩
  rw [hpeq]
  clear hpeq
  replace hl := Lib.hid hl
  replace hp := Lib.hid hp
  replace hps := Lib.hid hps
  replace hrec := Lib.hid hrec
  go_enter Tryz.func34, Tryz.ntmps34
  go_wp2_with fail
  refine (hsn _).mono ?_
  rintro e w1 ⟨rfl, hb1⟩
  clear hsn
  have hX0 := box_below (box_alloc (box_new w (.string s) 23) (.cells #[.string { data := #[] }] 23)) hb1
  have hX1 := box_below (box_new (w.alloc (Obj.cells #[Value.string s] 23)) (.string { data := #[] }) 23) hb1
  simp only [World.size_alloc] at hX1
  have hbel := below_two hb1
  clear hb1
  replace hX1 := Lib.hid hX1
  replace hbel := Lib.hid hbel
  have hX0' := Lib.hid hX0
  obtain ⟨z0, q0, r0⟩ := hX0
  have hcellS : Hid True := Lib.hid trivial
  go_upto_if 14 with (fail)
  go_cut [] (fun wx => FeedMid w p wx)
  case first =>
    rcases hpl with ⟨hS, rfl, rfl⟩ | ⟨hS, rfl, rfl⟩
    · rw [hS]
      replace hS := Lib.hid hS
      go_wp2_with fail
      go_meet
      exact ⟨hX0'.out, hX1.out, hbel.out⟩
    · rw [hS]
      replace hS := Lib.hid hS
      go_wp2_with fail
      go_meet
      exact ⟨box_set hX0'.out, box_set' hX1.out _ _ (by simp), hbel.out.setCell (Nat.le_refl _) _⟩
  case rest =>
    clear hX1 hbel hX0' z0 q0 r0 hcellS
    obtain ⟨hM0, hM1, hMb⟩ := hcut
    have hM0h := Lib.hid hM0
    obtain ⟨z0, q0, r0⟩ := hM0
    replace hM1 := Lib.hid hM1
    replace hMb := Lib.hid hMb
    obtain ⟨b, hb⟩ : ∃ b, p ++ (⟨#[c]⟩ : ByteArray) = b := ⟨_, rfl⟩
    have hbl : b.data.toList = pl ++ [c] := by rw [← hb, ← hp.out]; simp
    have hpsz : p.size ≤ 3 := by have h : p.size = pl.length := by rw [← hp.out]; rfl
                                 omega
    go_wp2_with fail
    refine (whole_any b _ hbl (by simp) (by simp; omega) _).mono ?_
    rintro e w2 ⟨v, ok, rfl, hyes, hno, hb2⟩
    have hbel2 := Lib.hid (below_step hMb.out hb2)
    have hX0 := Lib.hid (box_below (box_alloc hM0h.out _) hb2)
    have hX1 := Lib.hid (box_below (box_alloc hM1.out _) hb2)
    have hz2 : w.heap.size + 2 ≤ w2.heap.size := by have := hX1.out.1; omega
    clear hb2 hM0h hM1 z0 q0 r0 hcv
    cases ok with
    | true =>
      obtain ⟨hw, rfl⟩ := hyes rfl
      have hF := Lib.hid (Dec.ref_whole hps.out hw)
      clear hyes hno hw
      obtain ⟨z1, q1, r1⟩ := hX1.out
      obtain ⟨V, hV⟩ : ∃ V : Int, (Dec.valN (pl ++ [c]) 0 : Int) = V := ⟨_, rfl⟩
      rw [hV] at hF ⊢
      clear hV
      go_wp2_with fail
      refine bodyPost_ret (v := .tuple #[.agg #[.string ⟨#[]⟩], _]) (by simp [results, Tryz.results34, go_sem, q1, z1]; rfl) rfl ⟨⟨#[]⟩, _, rfl, by rw [hF.out], ?_, ?_⟩
      · rw [hF.out]
        exact own_one_at _ _ _ _ (by simp) (by simp; omega)
      · exact (hbel2.out.setCell (by simp) _).alloc (by simp; omega) _
    | false =>
      replace hno := Lib.hid (hno rfl)
      clear hyes
      have hbr := rbegins_any b _ hbl (by simp; omega)
      unfold BegRes at hbr
      cases hB : Dec.begL (pl ++ [c]) with
      | true =>
        have hF := Lib.hid (Dec.feedL_beg hps.out hB)
        rw [hB] at hbr
        replace hbr := Lib.hid hbr
        replace hbl := Lib.hid hbl
        clear hB
        go_wp2_with fail
        refine (hbr.out _).mono ?_
        rintro e w3 ⟨rfl, hb3⟩
        have hbel3 := Lib.hid (hbel2.out.trans (hb3.mono hbel2.out.size))
        obtain ⟨z1, q1, r1⟩ := box_below hX1.out hb3
        clear hb3
        go_wp2_with fail
        refine bodyPost_ret (v := .tuple #[.agg #[.string b], .slice none 0 0]) (by simp [results, Tryz.results34, go_sem, q1, z1]) rfl ⟨b, _, rfl, by rw [hF.out, hbl.out], ?_, ?_⟩
        · rw [hF.out]
          exact own_nil _ _
        · exact hbel3.out.setCell (by simp) _
      | false =>
        rw [hB] at hbr
        replace hbr := Lib.hid hbr
        replace hB := Lib.hid hB
        clear hbl
        by_cases h0 : p.size = 0
        · have hs := empty_of_size h0
          have hpl0 : pl = [] := by rw [← hp.out]; exact List.eq_nil_of_length_eq_zero h0
          have hF : Hid (Dec.feedL pl c = ([], [65533])) := Lib.hid (by
            have h1 := hno.out
            have h2 := hB.out
            rw [hpl0] at h1 h2 ⊢
            exact Dec.ref_alone h1 h2)
          clear h0 hpl0
          go_wp2_with fail
          refine (hbr.out _).mono ?_
          rintro e w3 ⟨rfl, hb3⟩
          have hbel3 := Lib.hid (hbel2.out.trans (hb3.mono hbel2.out.size))
          obtain ⟨z0, q0, r0⟩ := box_below hX0.out hb3
          obtain ⟨z1, q1, r1⟩ := box_below hX1.out hb3
          clear hb3
          go_wp2_with fail
          refine bodyPost_ret (v := .tuple #[.agg #[.string ⟨#[]⟩], _]) (by simp [results, Tryz.results34, go_sem, q1, z1]; rfl) rfl ⟨⟨#[]⟩, _, rfl, by rw [hF.out], ?_, ?_⟩
          · rw [hF.out]
            exact own_one_at _ _ _ _ (by simp) (by simp; omega)
          · exact (hbel3.out.setCell (by simp) _).alloc (by simp; omega) _
        · have hs := nonempty_of_size h0
          have hpl0 : pl ≠ [] := by intro e; rw [← hp.out] at e; exact h0 (by show p.data.toList.length = 0; rw [e]; rfl)
          have hF := Lib.hid (Dec.ref_again hps.out hpl0 hno.out hB.out)
          obtain ⟨hSl, rfl, rfl⟩ : Dec.saneL l = true ∧ p = s ∧ pl = l := by
            rcases hpl with h | h
            · exact h
            · exact absurd h.2.2 hpl0
          have hrec' := hrec.out hpl0 hSl
          obtain ⟨t0, ht0⟩ : ∃ t0, (Dec.feedL [] c).1 = t0 := ⟨_, rfl⟩
          obtain ⟨m0, hm0⟩ : ∃ m0, (Dec.feedL [] c).2 = m0 := ⟨_, rfl⟩
          have hml : m0.length ≤ 1 := by
            rw [← hm0, Dec.feedL_zero]
            split <;> simp
          rw [ht0, hm0] at hrec' hF
          replace hrec' := Lib.hid hrec'
          clear hrec h0 hpl0 hSl hpl ht0 hm0
          go_wp2_with fail
          refine (hbr.out _).mono ?_
          rintro e w3 ⟨rfl, hb3⟩
          have hbel3 := Lib.hid (hbel2.out.trans (hb3.mono hbel2.out.size))
          have hX0 := box_below hX0.out hb3
          have hX1 := Lib.hid (box_below hX1.out hb3)
          obtain ⟨z0, q0, r0⟩ := hX0
          clear hb3
          go_wp2_with fail
          refine (hrec'.out _).mono ?_
          rintro e w4 ⟨T, v4, rfl, hT4, hown4, hb4⟩
          have hbel4 := Lib.hid (hbel3.out.trans (hb4.mono hbel3.out.size))
          have hX4 := Lib.hid (box_below hX1.out hb4)
          replace hT4 := Lib.hid hT4
          replace hown4 := Lib.hid hown4
          clear hb4
          obtain ⟨i0, hi, hz0, hz1, hz2'⟩ := info_parts info_int
          have hown := Lib.hid (own_one_at (w.heap.size + 2) 65533 (w4.alloc (Obj.cells #[Value.string T] 23)) (w4.heap.size + 1) (by simp) (by have := hbel4.out.size; have := hX4.out.1; simp; omega))
          have hsrc := Lib.hid (own_Src (own_alloc (own_alloc hown4.out (Obj.cells #[Value.string T] 23)) (Obj.cells #[Value.int IntKind.i64 65533] 3)))
          have hX5 := Lib.hid (box_alloc (box_alloc hX4.out (Obj.cells #[Value.string T] 23)) (Obj.cells #[Value.int IntKind.i64 65533] 3))
          have hXT := Lib.hid (box_alloc (box_new w4 (Value.string T) 23) (Obj.cells #[Value.int IntKind.i64 65533] 3))
          have hB5 := Lib.hid ((hbel4.out.alloc hbel4.out.size (Obj.cells #[Value.string T] 23)).alloc (by have := hbel4.out.size; simp; omega) (Obj.cells #[Value.int IntKind.i64 65533] 3))
          have hm1 : 1 + (m0.map (Value.int .i64)).length ≤ maxLen := by rw [List.length_map]; unfold maxLen; omega
          have hm2 : (1 + (m0.map (Value.int .i64)).length) * 8 ≤ 140737488355328 := by rw [List.length_map]; omega
          have hm3 : w.heap.size + 2 ≤ ((w4.alloc (Obj.cells #[Value.string T] 23)).alloc (Obj.cells #[Value.int IntKind.i64 65533] 3)).heap.size := by have := hX4.out.1; simp; omega
          have hne : w.heap.size + 1 ≠ w4.heap.size + 1 := by have := hX4.out.1; omega
          replace hm1 := Lib.hid hm1
          replace hm2 := Lib.hid hm2
          replace hm3 := Lib.hid hm3
          go_upto_region 14 with (at_builtin; refine wpList_append_src rfl _ _ 24 rfl (w.heap.size + 2) 3 i0 (.int .i64 0) 8 Tryz.underlying24 hi hz0 hz1 hz2' rfl _ _ _ rfl hown.out _ _ rfl hsrc.out (ints_oneCell m0) hm1.out hm2.out hm3.out ?_; intro v5 w5 hown5 hgrow5)
          have hX6 := box_grown0 hX5.out hgrow5 (ne_own hne)
          obtain ⟨z7, q7, r7⟩ := box_grown0 hXT.out hgrow5 (ne_own (by omega))
          have hB6 := Lib.hid (below_row hB5.out hgrow5 hB5.out.size hown.out (by omega))
          have hown6 := Lib.hid (own_of_row (l := 65533 :: m0) hown5 (by simp; omega) (by simp))
          clear hown5 hgrow5
          obtain ⟨z6, q6, r6⟩ := hX6
          go_wp2_with fail
          refine bodyPost_ret (v := .tuple #[.agg #[.string T], v5]) (by simp [results, Tryz.results34, go_sem, q6, z6]) rfl ⟨T, v5, rfl, by rw [hF.out]; exact hT4.out, ?_, ?_⟩
          · rw [hF.out]
            exact own_mono (own_set hown6.out _ _ (own_ne hown6.out (by simp))) (by omega)
          · exact hB6.out.setCell (by simp) _
theorem rfeed_zero (c : UInt8) (w : World) : Calls Tryz.prog 34 #[.agg #[.string ⟨#[]⟩], .int .u8 c.toNat] w (RFeedRes (Dec.feedL [] c).1 (Dec.feedL [] c).2 w) :=
  rfeed_step ⟨#[]⟩ [] rfl (by simp) c w (fun h => absurd rfl h)
theorem rfeed_any (s : ByteArray) (l : List UInt8) (hl : s.data.toList = l) (hm : l.length ≤ 1000) (c : UInt8) (w : World) : Calls Tryz.prog 34 #[.agg #[.string s], .int .u8 c.toNat] w (RFeedRes (Dec.feedL l c).1 (Dec.feedL l c).2 w) :=
  rfeed_step s l hl hm c w (fun _ _ w => rfeed_zero c w)
end Go.Proofs.YtiidjkhkcckmkaaGreatDoor.Tq

