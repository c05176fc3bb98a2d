/- Layer 1, plain mathematics: the document's beginnings and its Feed are ours. -/
import Derived.Test.YtcchcgllgodkhaaDoorMR
namespace Go.Proofs.YtcchcgllgodkhaaDoor
namespace Dec
open Go.Lib

theorem beg_len {s : List UInt8} (h : begL s = true) : s.length ≠ 0 ∧ s.length ≤ 3 := by
  constructor
  · intro h0
    rw [List.eq_nil_of_length_eq_zero h0] at h
    cases h
  · rcases Nat.lt_or_ge s.length 4 with h1 | h1
    · omega
    · rw [beg4 s h1] at h
      cases h

theorem valA (a : UInt8) (rest : Nat) : (192 ≤ a.toNat ∧ a.toNat < 224 → valN [a] rest = (a.toNat - 192) * 64 + rest) ∧
    (224 ≤ a.toNat ∧ a.toNat < 240 → valN [a] rest = ((a.toNat - 224) * 64 + rest) * 64 + rest) ∧
    (240 ≤ a.toNat ∧ a.toNat < 248 → valN [a] rest = (((a.toNat - 240) * 64 + rest) * 64 + rest) * 64 + rest) := by
  refine ⟨fun h => ?_, fun h => ?_, fun h => ?_⟩
  · unfold valN; rw [show nb [a] 0 = a.toNat from rfl, head2 h]; rfl
  · unfold valN; rw [show nb [a] 0 = a.toNat from rfl, head3 h]; rfl
  · unfold valN; rw [show nb [a] 0 = a.toNat from rfl, head4 h]; rfl

theorem valAB (a b : UInt8) (rest : Nat) : (224 ≤ a.toNat ∧ a.toNat < 240 → valN [a, b] rest = ((a.toNat - 224) * 64 + b.toNat % 64) * 64 + rest) ∧
    (240 ≤ a.toNat ∧ a.toNat < 248 → valN [a, b] rest = (((a.toNat - 240) * 64 + b.toNat % 64) * 64 + rest) * 64 + rest) := by
  refine ⟨fun h => ?_, fun h => ?_⟩
  · unfold valN; rw [show nb [a, b] 0 = a.toNat from rfl, head3 h]; rfl
  · unfold valN; rw [show nb [a, b] 0 = a.toNat from rfl, head4 h]; rfl

theorem valABC (a b c : UInt8) (rest : Nat) (h : 240 ≤ a.toNat ∧ a.toNat < 248) : valN [a, b, c] rest = (((a.toNat - 240) * 64 + b.toNat % 64) * 64 + c.toNat % 64) * 64 + rest := by
  unfold valN; rw [show nb [a, b, c] 0 = a.toNat from rfl, head4 h]; rfl

theorem mem_lo (lo hi : Nat) : (lo : Int) ∈ cands lo hi := by simp [cands]
theorem mem_2048 (lo hi : Nat) : ((2048 : Nat) : Int) ∈ cands lo hi := by simp [cands]
theorem mem_65536 (lo hi : Nat) : ((65536 : Nat) : Int) ∈ cands lo hi := by simp [cands]

theorem good_nat {n : Nat} (h : n ≤ 1114111 ∧ (n < 55296 ∨ 57343 < n)) : goodB (n : Int) = true := (goodB_iff _).2 (by omega)

theorem beg_begR (s : List UInt8) (h : begL s = true) : begR s = true := by
  obtain ⟨h0, h3⟩ := beg_len h
  match s, h0, h3 with
  | [a], _, _ =>
    have ha := (beg1 a).1 h
    have hn : nb [a] 0 = a.toNat := rfl
    obtain ⟨v2, v3, v4⟩ := valA a 0
    obtain ⟨w2, w3, w4⟩ := valA a 63
    rcases (by omega : a.toNat < 224 ∨ a.toNat = 224 ∨ (224 < a.toNat ∧ a.toNat < 240) ∨ a.toNat = 240 ∨ 240 < a.toNat) with h1 | h1 | h1 | h1 | h1
    · have e1 := v2 (by omega)
      have e2 := w2 (by omega)
      obtain ⟨x, y, e, hx, hy⟩ := enc2 (valN [a] 0) (by omega)
      refine begR_of [a] (by simp) (by simp) (by rw [hn, head2 (by omega)]; simp) (valN [a] 0) (mem_lo _ _) (Nat.le_refl _) (by omega) (good_nat (by omega)) (by rw [e, hn, head2 (by omega)]; rfl) ?_
      rw [e]
      simp only [List.length_singleton, List.take_succ_cons, List.take_zero, List.cons.injEq, and_true]
      exact u8_ext (by omega)
    · have e1 := v3 (by omega)
      have e2 := w3 (by omega)
      obtain ⟨x, y, z, e, hx, hy, hz⟩ := enc3 2048 (by omega)
      refine begR_of [a] (by simp) (by simp) (by rw [hn, head3 (by omega)]; simp) 2048 (mem_2048 _ _) (by omega) (by omega) (good_nat (by omega)) (by rw [e, hn, head3 (by omega)]; rfl) ?_
      rw [e]
      simp only [List.length_singleton, List.take_succ_cons, List.take_zero, List.cons.injEq, and_true]
      exact u8_ext (by omega)
    · have e1 := v3 (by omega)
      have e2 := w3 (by omega)
      obtain ⟨x, y, z, e, hx, hy, hz⟩ := enc3 (valN [a] 0) (by omega)
      refine begR_of [a] (by simp) (by simp) (by rw [hn, head3 (by omega)]; simp) (valN [a] 0) (mem_lo _ _) (Nat.le_refl _) (by omega) (good_nat (by omega)) (by rw [e, hn, head3 (by omega)]; rfl) ?_
      rw [e]
      simp only [List.length_singleton, List.take_succ_cons, List.take_zero, List.cons.injEq, and_true]
      exact u8_ext (by omega)
    · have e1 := v4 (by omega)
      have e2 := w4 (by omega)
      obtain ⟨x, y, z, t, e, hx, hy, hz, ht⟩ := enc4 65536 (by omega)
      refine begR_of [a] (by simp) (by simp) (by rw [hn, head4 (by omega)]; simp) 65536 (mem_65536 _ _) (by omega) (by omega) (good_nat (by omega)) (by rw [e, hn, head4 (by omega)]; rfl) ?_
      rw [e]
      simp only [List.length_singleton, List.take_succ_cons, List.take_zero, List.cons.injEq, and_true]
      exact u8_ext (by omega)
    · have e1 := v4 (by omega)
      have e2 := w4 (by omega)
      obtain ⟨x, y, z, t, e, hx, hy, hz, ht⟩ := enc4 (valN [a] 0) (by omega)
      refine begR_of [a] (by simp) (by simp) (by rw [hn, head4 (by omega)]; simp) (valN [a] 0) (mem_lo _ _) (Nat.le_refl _) (by omega) (good_nat (by omega)) (by rw [e, hn, head4 (by omega)]; rfl) ?_
      rw [e]
      simp only [List.length_singleton, List.take_succ_cons, List.take_zero, List.cons.injEq, and_true]
      exact u8_ext (by omega)
  | [a, b], _, _ =>
    have hf := (beg2 a b).1 h
    have ha := hf.lo
    unfold Fits at hf
    have hb : b.toNat % 64 = b.toNat - 128 ∧ 128 ≤ b.toNat ∧ b.toNat ≤ 191 := by omega
    have hn : nb [a, b] 0 = a.toNat := rfl
    obtain ⟨v3, v4⟩ := valAB a b 0
    obtain ⟨w3, w4⟩ := valAB a b 63
    rcases (by omega : a.toNat < 240 ∨ 240 ≤ a.toNat) with h1 | h1
    · have e1 := v3 (by omega)
      have e2 := w3 (by omega)
      obtain ⟨x, y, z, e, hx, hy, hz⟩ := enc3 (valN [a, b] 0) (by omega)
      refine begR_of [a, b] (by simp) (by simp) (by rw [hn, head3 (by omega)]; simp) (valN [a, b] 0) (mem_lo _ _) (Nat.le_refl _) (by omega) (good_nat (by omega)) (by rw [e, hn, head3 (by omega)]; rfl) ?_
      rw [e]
      simp only [List.length_cons, List.length_nil, List.take_succ_cons, List.take_zero, List.cons.injEq, and_true]
      exact ⟨u8_ext (by omega), u8_ext (by omega)⟩
    · have e1 := v4 (by omega)
      have e2 := w4 (by omega)
      obtain ⟨x, y, z, t, e, hx, hy, hz, ht⟩ := enc4 (valN [a, b] 0) (by omega)
      refine begR_of [a, b] (by simp) (by simp) (by rw [hn, head4 (by omega)]; simp) (valN [a, b] 0) (mem_lo _ _) (Nat.le_refl _) (by omega) (good_nat (by omega)) (by rw [e, hn, head4 (by omega)]; rfl) ?_
      rw [e]
      simp only [List.length_cons, List.length_nil, List.take_succ_cons, List.take_zero, List.cons.injEq, and_true]
      exact ⟨u8_ext (by omega), u8_ext (by omega)⟩
  | [a, b, c], _, _ =>
    obtain ⟨hf, h1, hc1, hc2⟩ := (beg3 a b c).1 h
    have ha := hf.lo
    unfold Fits at hf
    have hb : b.toNat % 64 = b.toNat - 128 ∧ 128 ≤ b.toNat ∧ b.toNat ≤ 191 := by omega
    have hc : c.toNat % 64 = c.toNat - 128 := by omega
    have hn : nb [a, b, c] 0 = a.toNat := rfl
    have e1 := valABC a b c 0 (by omega)
    have e2 := valABC a b c 63 (by omega)
    obtain ⟨x, y, z, t, e, hx, hy, hz, ht⟩ := enc4 (valN [a, b, c] 0) (by omega)
    refine begR_of [a, b, c] (by simp) (by simp) (by rw [hn, head4 (by omega)]; simp) (valN [a, b, c] 0) (mem_lo _ _) (Nat.le_refl _) (by omega) (good_nat (by omega)) (by rw [e, hn, head4 (by omega)]; rfl) ?_
    rw [e]
    simp only [List.length_cons, List.length_nil, List.take_succ_cons, List.take_zero, List.cons.injEq, and_true]
    exact ⟨u8_ext (by omega), u8_ext (by omega), u8_ext (by omega)⟩

theorem begR_eq (s : List UInt8) : begR s = begL s := by
  rw [Bool.eq_iff_iff]
  exact ⟨begR_beg s, beg_begR s⟩

/-- a whole text of two bytes or more, by the library's word -/
theorem whole_of_dec2 (a b : UInt8) (h : (decL [a, b]).2 = 2) : wholeP [a, b] := by
  rw [dec2] at h
  unfold decodeN at h
  have hb := b.toNat_lt
  by_cases h1 : a.toNat < 128
  · rw [if_pos h1] at h; simp at h
  rw [if_neg h1] at h
  by_cases h2 : a.toNat / 32 = 6 ∧ (1 < 2 ∧ b.toNat / 64 = 2)
  · rw [if_pos h2] at h
    by_cases h3 : a.toNat % 32 * 64 + b.toNat % 64 ≥ 128
    · obtain ⟨x, y, e, hx, hy⟩ := enc2 (valN [a, b] 0) (by rw [val2 a b (by omega)]; omega)
      have hv := val2 a b (by omega) 0
      refine ⟨by simp, by rw [show nb [a, b] 0 = a.toNat from rfl, head2 (by omega)]; rfl, good_nat (by omega), ?_⟩
      rw [e]
      simp only [List.cons.injEq, and_true]
      exact ⟨u8_ext (by omega), u8_ext (by omega)⟩
    · rw [if_neg h3] at h; simp at h
  · rw [if_neg h2, if_neg (by omega), if_neg (by omega)] at h
    simp at h

theorem whole_of_dec3 (a b c : UInt8) (hf : Fits a.toNat b.toNat) (h : (decL [a, b, c]).2 = 3) : wholeP [a, b, c] := by
  have ha := hf.lo
  rw [dec3] at h
  unfold decodeN at h
  rw [if_neg (by omega), if_neg (by omega)] at h
  by_cases h2 : a.toNat / 16 = 14 ∧ (1 < 3 ∧ b.toNat / 64 = 2) ∧ (2 < 3 ∧ c.toNat / 64 = 2)
  · rw [if_pos h2] at h
    by_cases h3 : a.toNat % 16 * 4096 + b.toNat % 64 * 64 + c.toNat % 64 ≥ 2048 ∧ (a.toNat % 16 * 4096 + b.toNat % 64 * 64 + c.toNat % 64 < 55296 ∨ (57344 ≤ a.toNat % 16 * 4096 + b.toNat % 64 * 64 + c.toNat % 64 ∧ a.toNat % 16 * 4096 + b.toNat % 64 * 64 + c.toNat % 64 ≤ 1114111))
    · have hv := val3 a b c (by omega) 0
      obtain ⟨x, y, z, e, hx, hy, hz⟩ := enc3 (valN [a, b, c] 0) (by omega)
      refine ⟨by simp, by rw [show nb [a, b, c] 0 = a.toNat from rfl, head3 (by omega)]; rfl, good_nat (by omega), ?_⟩
      rw [e]
      simp only [List.cons.injEq, and_true]
      exact ⟨u8_ext (by omega), u8_ext (by omega), u8_ext (by omega)⟩
    · rw [if_neg h3] at h; simp at h
  · rw [if_neg h2, if_neg (by omega)] at h
    simp at h

theorem whole_of_dec4 (a b c d : UInt8) (hf : Fits a.toNat b.toNat) (h1 : 240 ≤ a.toNat) (h : (decL [a, b, c, d]).2 = 4) : wholeP [a, b, c, d] := by
  have ha := hf.lo
  rw [dec4] at h
  unfold decodeN at h
  rw [if_neg (by omega), if_neg (by omega), if_neg (by omega)] at h
  by_cases h2 : a.toNat / 8 = 30 ∧ (1 < 4 ∧ b.toNat / 64 = 2) ∧ (2 < 4 ∧ c.toNat / 64 = 2) ∧ (3 < 4 ∧ d.toNat / 64 = 2)
  · rw [if_pos h2] at h
    unfold Fits at hf
    have hv := val4 a b c d (by omega) 0
    obtain ⟨x, y, z, t, e, hx, hy, hz, ht⟩ := enc4 (valN [a, b, c, d] 0) (by omega)
    refine ⟨by simp, by rw [show nb [a, b, c, d] 0 = a.toNat from rfl, head4 (by omega)]; rfl, good_nat (by omega), ?_⟩
    rw [e]
    simp only [List.cons.injEq, and_true]
    exact ⟨u8_ext (by omega), u8_ext (by omega), u8_ext (by omega), u8_ext (by omega)⟩
  · rw [if_neg h2] at h
    simp at h

theorem ref_whole {s : List UInt8} {c : UInt8} (hs : saneL s = true) (h : wholeP (s ++ [c])) : feedL s c = ([], [(valN (s ++ [c]) 0 : Int)]) := by
  have hf := whole_form h
  have hd : decL (s ++ [c]) = (valN (s ++ [c]) 0, (s ++ [c]).length) := by rw [hf.dec]; rfl
  rw [feedL_dec hs hf.nobeg (by rw [hd]; simp), hd]

theorem ref_alone {c : UInt8} (h : ¬ wholeP [c]) (hb : begL [c] = false) : feedL [] c = ([], [65533]) := by
  rw [feedL_zero, hb]
  have h1 : ¬ c.toNat < 128 := by
    intro h1
    obtain ⟨a, e, ha⟩ := enc1 c.toNat (by omega)
    refine h ⟨by simp, by rw [show nb [c] 0 = c.toNat from rfl, head1 h1]; rfl, ?_, ?_⟩
    · rw [val1 c h1]; exact good_nat (by omega)
    · rw [val1 c h1, e, u8_ext ha]
  rw [dec1_fst, if_neg h1]
  rfl

theorem ref_again {s : List UInt8} {c : UInt8} (hs : saneL s = true) (h0 : s ≠ []) (h : ¬ wholeP (s ++ [c])) (hb : begL (s ++ [c]) = false) : feedL s c = ((feedL [] c).1, 65533 :: (feedL [] c).2) := by
  refine feedL_rec hs hb fun hd => h ?_
  have hbs : begL s = true := by
    unfold saneL at hs
    rcases Bool.or_eq_true_iff.1 hs with h1 | h1
    · exact absurd (List.eq_nil_of_length_eq_zero (of_decide_eq_true h1)) h0
    · exact h1
  obtain ⟨h1, h3⟩ := beg_len hbs
  match s, h1, h3 with
  | [a], _, _ => exact whole_of_dec2 a c hd
  | [a, b], _, _ => exact whole_of_dec3 a b c ((beg2 a b).1 hbs) hd
  | [a, b, d], _, _ => exact whole_of_dec4 a b d c ((beg3 a b d).1 hbs).1 ((beg3 a b d).1 hbs).2.1 hd

end Dec
end Go.Proofs.YtcchcgllgodkhaaDoor
