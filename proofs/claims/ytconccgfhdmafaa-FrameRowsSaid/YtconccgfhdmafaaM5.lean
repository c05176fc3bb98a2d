/- Layer 1, plain mathematics: forms are read again, in whole texts; what is told is scalar; no more values than bytes. -/
import Derived.Test.YtconccgfhdmafaaM4
namespace Go.Proofs.Ytconccgfhdmafaa
set_option linter.unusedSimpArgs false
set_option linter.unusedVariables false
namespace Dec
open Go.Lib

theorem feedL_beg {s : List UInt8} {c : UInt8} (h : saneL s = true) (hb : begL (s ++ [c]) = true) : feedL s c = (s ++ [c], []) := by
  unfold feedL feedL1
  rw [if_pos h, if_pos hb]

theorem feedL_dec {s : List UInt8} {c : UInt8} (h : saneL s = true) (hb : begL (s ++ [c]) = false) (hd : (decL (s ++ [c])).2 = s.length + 1) : feedL s c = ([], [((decL (s ++ [c])).1 : Int)]) := by
  unfold feedL feedL1
  rw [if_pos h, if_neg (by rw [hb]; simp), if_pos hd]

theorem dec1_snd (a : UInt8) : (decL [a]).2 = 1 := by
  rw [dec1]
  unfold decodeN
  repeat' split
  all_goals first | rfl | omega

theorem dec1_fst (a : UInt8) : (decL [a]).1 = if a.toNat < 128 then a.toNat else 65533 := by
  rw [dec1]
  unfold decodeN
  repeat' split
  all_goals first | rfl | omega

theorem feedL_rec {s : List UInt8} {c : UInt8} (h : saneL s = true) (hb : begL (s ++ [c]) = false) (hd : ¬ (decL (s ++ [c])).2 = s.length + 1) : feedL s c = ((feedL [] c).1, 65533 :: (feedL [] c).2) := by
  have e : feedL [] c = if begL [c] then ([c], []) else ([], [((decL [c]).1 : Int)]) := by
    show feedL1 [] c = _
    unfold feedL1
    rw [List.nil_append, dec1_snd]
    rfl
  rw [e]
  unfold feedL feedL1
  rw [if_pos h, if_neg (by rw [hb]; simp), if_neg hd]
  split <;> rfl

theorem feedL_ins {s : List UInt8} {c : UInt8} (h : saneL s = false) : feedL s c = feedL [] c := by
  have e : feedL [] c = feedL1 [] c := rfl
  rw [e]
  unfold feedL
  rw [if_neg (by rw [h]; simp)]

theorem feedL_zero (c : UInt8) : feedL [] c = if begL [c] then ([c], []) else ([], [((decL [c]).1 : Int)]) := by
  show feedL1 [] c = _
  unfold feedL1
  rw [List.nil_append, dec1_snd]
  rfl

theorem saneL_beg {s : List UInt8} (h : begL s = true) : saneL s = true := by
  unfold saneL
  rw [h]
  simp

theorem fits_of (x y : Nat) (r : Nat) (h : (2048 ≤ r ∧ r < 55296 ∨ 57343 < r ∧ r ≤ 65535) ∧ x = 224 + r / 4096 ∧ y = 128 + r / 64 % 64) : Fits x y := by
  unfold Fits
  omega

theorem fits_of4 (x y : Nat) (r : Nat) (h : (65536 ≤ r ∧ r ≤ 1114111) ∧ x = 240 + r / 262144 ∧ y = 128 + r / 4096 % 64) : Fits x y := by
  unfold Fits
  omega

theorem dec2_val (a b r : Nat) (h : (128 ≤ r ∧ r ≤ 2047) ∧ a = 192 + r / 64 ∧ b = 128 + r % 64) : decodeN 2 a b 0 0 = (r, 2) := by
  unfold decodeN
  obtain ⟨h1, h2, h3⟩ := h
  rw [if_neg (by omega), if_pos (by omega), if_pos (by omega)]
  congr 1
  omega

theorem dec3_val (a b c r : Nat) (h : (2048 ≤ r ∧ r < 55296 ∨ 57343 < r ∧ r ≤ 65535) ∧ a = 224 + r / 4096 ∧ b = 128 + r / 64 % 64 ∧ c = 128 + r % 64) : decodeN 3 a b c 0 = (r, 3) := by
  unfold decodeN
  obtain ⟨h1, h2, h3, h4⟩ := h
  have e : a % 16 * 4096 + b % 64 * 64 + c % 64 = r := by omega
  rw [if_neg (by omega), if_neg (by omega), if_pos (by omega), e, if_pos (by omega)]

theorem dec4_val (a b c d r : Nat) (h : (65536 ≤ r ∧ r ≤ 1114111) ∧ a = 240 + r / 262144 ∧ b = 128 + r / 4096 % 64 ∧ c = 128 + r / 64 % 64 ∧ d = 128 + r % 64) : decodeN 4 a b c d = (r, 4) := by
  unfold decodeN
  obtain ⟨h1, h2, h3, h4, h5⟩ := h
  have e : a % 8 * 262144 + b % 64 * 4096 + c % 64 * 64 + d % 64 = r := by omega
  rw [if_neg (by omega), if_neg (by omega), if_neg (by omega), if_pos (by omega), e, if_pos (by omega)]

theorem goodB_iff (r : Int) : goodB r = true ↔ 0 ≤ r ∧ r ≤ 1114111 ∧ (r < 55296 ∨ 57343 < r) := by
  unfold goodB
  simp [and_assoc]

/-- what is known of a scalar value's form -/
structure Form (r : Int) (f : List UInt8) : Prop where
  len : f.length = if r < 128 then 1 else if r < 2048 then 2 else if r < 65536 then 3 else 4
  beg : ∀ k, 1 ≤ k → k < f.length → begL (f.take k) = true
  nobeg : begL f = false
  dec : decL f = (r.toNat, f.length)

theorem form_enc (r : Int) (hg : goodB r = true) : Form r (Lib.encodeRune r) := by
  obtain ⟨h0, h1, h2⟩ := (goodB_iff r).1 hg
  obtain ⟨n, rfl⟩ := Int.eq_ofNat_of_zero_le h0
  rcases (by omega : (n : Int) ≤ 127 ∨ (128 ≤ (n : Int) ∧ (n : Int) ≤ 2047) ∨ ((2048 ≤ (n : Int) ∧ (n : Int) < 55296) ∨ (57343 < (n : Int) ∧ (n : Int) ≤ 65535)) ∨ (65536 ≤ (n : Int) ∧ (n : Int) ≤ 1114111)) with h | h | h | h
  · have e : Lib.encodeRune (n : Int) = [(n : Int).toNat.toUInt8] := by
      unfold Lib.encodeRune
      rw [Lib.encodeRuneZ_one h0 h]
      rfl
    have e1 := enc_nat (n : Int) (by omega) (by omega)
    rw [e]
    refine ⟨?_, ?_, ?_, ?_⟩
    · rw [if_pos (by omega)]; rfl
    · intro k h3 h4; simp at h4; omega
    · rw [Bool.eq_false_iff]; intro h5; have := (beg1 _).1 h5; omega
    · rw [dec1, e1]; unfold decodeN; rw [if_pos (by omega)]; rfl
  · have e : Lib.encodeRune (n : Int) = [(192 + (n : Int) / 64).toNat.toUInt8, (128 + (n : Int) % 64).toNat.toUInt8] := by
      unfold Lib.encodeRune
      rw [Lib.encodeRuneZ_two h.1 h.2]
      rfl
    have e1 := enc_nat (192 + (n : Int) / 64) (by omega) (by omega)
    have e2 := enc_nat (128 + (n : Int) % 64) (by omega) (by omega)
    rw [e]
    generalize (192 + (n : Int) / 64).toNat.toUInt8 = a at *
    generalize (128 + (n : Int) % 64).toNat.toUInt8 = b at *
    refine ⟨?_, ?_, ?_, ?_⟩
    · rw [if_neg (by omega), if_pos (by omega)]; rfl
    · intro k h3 h4
      obtain rfl : k = 1 := by simp at h4; omega
      exact (beg1 _).2 (by omega)
    · rw [Bool.eq_false_iff]; intro h5; have := ((beg2 _ _).1 h5).lo; omega
    · rw [dec2, dec2_val _ _ n (by omega)]; simp
  · have e : Lib.encodeRune (n : Int) = [(224 + (n : Int) / 4096).toNat.toUInt8, (128 + (n : Int) / 64 % 64).toNat.toUInt8, (128 + (n : Int) % 64).toNat.toUInt8] := by
      unfold Lib.encodeRune
      rw [Lib.encodeRuneZ_three h]
      rfl
    have e1 := enc_nat (224 + (n : Int) / 4096) (by omega) (by omega)
    have e2 := enc_nat (128 + (n : Int) / 64 % 64) (by omega) (by omega)
    have e3 := enc_nat (128 + (n : Int) % 64) (by omega) (by omega)
    rw [e]
    generalize (224 + (n : Int) / 4096).toNat.toUInt8 = a at *
    generalize (128 + (n : Int) / 64 % 64).toNat.toUInt8 = b at *
    generalize (128 + (n : Int) % 64).toNat.toUInt8 = c at *
    refine ⟨?_, ?_, ?_, ?_⟩
    · rw [if_neg (by omega), if_neg (by omega), if_pos (by omega)]; rfl
    · intro k h3 h4
      rcases (by simp at h4; omega : k = 1 ∨ k = 2) with rfl | rfl
      · exact (beg1 _).2 (by omega)
      · exact (beg2 _ _).2 (fits_of _ _ n (by omega))
    · rw [Bool.eq_false_iff]; intro h5; have := ((beg3 _ _ _).1 h5).2.1; omega
    · rw [dec3, dec3_val _ _ _ n (by omega)]; simp
  · have e : Lib.encodeRune (n : Int) = [(240 + (n : Int) / 262144).toNat.toUInt8, (128 + (n : Int) / 4096 % 64).toNat.toUInt8, (128 + (n : Int) / 64 % 64).toNat.toUInt8, (128 + (n : Int) % 64).toNat.toUInt8] := by
      unfold Lib.encodeRune
      rw [Lib.encodeRuneZ_four h.1 h.2]
      rfl
    have e0 := enc_nat (240 + (n : Int) / 262144) (by omega) (by omega)
    have e1 := enc_nat (128 + (n : Int) / 4096 % 64) (by omega) (by omega)
    have e2 := enc_nat (128 + (n : Int) / 64 % 64) (by omega) (by omega)
    have e3 := enc_nat (128 + (n : Int) % 64) (by omega) (by omega)
    rw [e]
    generalize (240 + (n : Int) / 262144).toNat.toUInt8 = a at *
    generalize (128 + (n : Int) / 4096 % 64).toNat.toUInt8 = b at *
    generalize (128 + (n : Int) / 64 % 64).toNat.toUInt8 = c at *
    generalize (128 + (n : Int) % 64).toNat.toUInt8 = d at *
    refine ⟨?_, ?_, ?_, ?_⟩
    · rw [if_neg (by omega), if_neg (by omega), if_neg (by omega)]; rfl
    · intro k h3 h4
      rcases (by simp at h4; omega : k = 1 ∨ k = 2 ∨ k = 3) with rfl | rfl | rfl
      · exact (beg1 _).2 (by omega)
      · exact (beg2 _ _).2 (fits_of4 _ _ n (by omega))
      · exact (beg3 _ _ _).2 ⟨fits_of4 _ _ n (by omega), by omega, by omega, by omega⟩
    · exact beg4 _ (by simp)
    · rw [dec4, dec4_val _ _ _ _ n (by omega)]; simp

theorem runL_snoc (s : List UInt8) (bs : List UInt8) (c : UInt8) : runL s (bs ++ [c]) = ((feedL (runL s bs).1 c).1, (runL s bs).2 ++ (feedL (runL s bs).1 c).2) := by
  rw [runL_append]
  simp [runL]

theorem run_prefix {r : Int} {f : List UInt8} (h : Form r f) (k : Nat) (hk : k < f.length) : runL [] (f.take k) = (f.take k, []) := by
  induction k with
  | zero => rfl
  | succ k ih =>
    have hlt : k < f.length := by omega
    rw [List.take_succ_eq_append_getElem hlt, runL_snoc, ih hlt]
    have hs : saneL (f.take k) = true := by
      rcases Nat.eq_zero_or_pos k with rfl | hp
      · rfl
      · exact saneL_beg (h.beg k hp hlt)
    have hb := h.beg (k + 1) (by omega) hk
    rw [List.take_succ_eq_append_getElem hlt] at hb
    rw [feedL_beg hs hb]
    rfl

theorem run_form {r : Int} {f : List UInt8} (hr : 0 ≤ r) (h : Form r f) : runL [] f = ([], [r]) := by
  have hl : 1 ≤ f.length := by
    rw [h.len]
    repeat' split
    all_goals omega
  obtain ⟨k, hk⟩ : ∃ k, f.length = k + 1 := ⟨f.length - 1, by omega⟩
  have hlt : k < f.length := by omega
  have hf : f = f.take k ++ [f[k]] := by
    rw [← List.take_succ_eq_append_getElem hlt, ← hk, List.take_length]
  have hs : saneL (f.take k) = true := by
    rcases Nat.eq_zero_or_pos k with rfl | hp
    · rfl
    · exact saneL_beg (h.beg k hp hlt)
  have hrun := run_prefix h k hlt
  have hd := h.dec
  have hn := h.nobeg
  have hlen : (f.take k).length + 1 = f.length := by rw [List.length_take]; omega
  rw [hf] at hd hn
  have h1 := runL_snoc [] (f.take k) f[k]
  rw [← hf, hrun, feedL_dec hs hn (by rw [hd, ← hf]; exact hlen.symm), hd] at h1
  rw [h1]
  simp
  omega

theorem good_fix (r : Int) : goodB (fix r) = true := by
  unfold fix
  split
  · assumption
  · decide

theorem fix_good {r : Int} (h : goodB r = true) : fix r = r := by
  unfold fix
  rw [if_pos h]

theorem run_text (l : List Int) : runL [] (textL l) = ([], l.map fix) := by
  induction l with
  | nil => rfl
  | cons r l ih =>
    have e : textL (r :: l) = Lib.encodeRune (fix r) ++ textL l := by simp [textL]
    have hg := good_fix r
    rw [e, runL_append, run_form ((goodB_iff _).1 hg).1 (form_enc _ hg), ih]
    rfl

theorem all_text (l : List Int) : allL (textL l) = l.map fix := by
  rw [allL_eq]
  unfold allLL
  rw [run_text]
  show l.map fix ++ [] = _
  rw [List.append_nil]

theorem all_rows (l : List Int) (b : List UInt8) : allL (textL l ++ b) = allL (textL l) ++ allL b := by
  rw [all_text, allL_eq, allL_eq]
  unfold allLL
  rw [runL_append, run_text]
  simp [List.append_assoc]

end Dec
end Go.Proofs.Ytconccgfhdmafaa
