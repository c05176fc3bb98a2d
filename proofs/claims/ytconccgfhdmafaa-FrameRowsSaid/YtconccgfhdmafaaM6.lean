/- Layer 1, plain mathematics: what is told is scalar, and not more than there are bytes; what is below 128 is itself; what begins nothing is Repl. -/
import Derived.Test.YtconccgfhdmafaaM5
namespace Go.Proofs.Ytconccgfhdmafaa
set_option linter.unusedSimpArgs false
set_option linter.unusedVariables false
namespace Dec
open Go.Lib

theorem decN_good (n b0 b1 b2 b3 : Nat) : (decodeN n b0 b1 b2 b3).1 ≤ 1114111 ∧ ((decodeN n b0 b1 b2 b3).1 < 55296 ∨ 57343 < (decodeN n b0 b1 b2 b3).1) := by
  unfold decodeN
  by_cases h0 : b0 < 128
  · rw [if_pos h0]; omega
  · rw [if_neg h0]
    split
    · split
      · simp only; omega
      · simp
    · split
      · split
        · simp only; omega
        · simp
      · split
        · split
          · simp only; omega
          · simp
        · simp

theorem decN_high (n b0 b1 b2 b3 : Nat) (h : 128 ≤ b0) : 128 ≤ (decodeN n b0 b1 b2 b3).1 := by
  unfold decodeN
  rw [if_neg (by omega)]
  split
  · split
    · simp only; omega
    · simp
  · split
    · split
      · simp only; omega
      · simp
    · split
      · split
        · simp only; omega
        · simp
      · simp

theorem decL_good (l : List UInt8) : goodB ((decL l).1 : Int) = true := by
  unfold decL
  split
  · decide
  · have := decN_good l.length (nb l 0) (nb l 1) (nb l 2) (nb l 3)
    rw [goodB_iff]
    omega

theorem good_repl : goodB 65533 = true := by decide

theorem feedL1_good (s : List UInt8) (c : UInt8) : ∀ x ∈ (feedL1 s c).2, goodB x = true := by
  intro x hx
  unfold feedL1 at hx
  repeat' split at hx
  · simp at hx
  · simp at hx; subst hx; exact decL_good _
  · simp at hx; subst hx; exact good_repl
  · simp at hx
    rcases hx with rfl | rfl
    · exact good_repl
    · exact decL_good _

theorem feedL_good (s : List UInt8) (c : UInt8) : ∀ x ∈ (feedL s c).2, goodB x = true := by
  unfold feedL
  split
  · exact feedL1_good _ _
  · exact feedL1_good _ _

theorem runL_good (s : List UInt8) (bs : List UInt8) : ∀ x ∈ (runL s bs).2, goodB x = true := by
  induction bs generalizing s with
  | nil => simp [runL]
  | cons c bs ih =>
    intro x hx
    simp only [runL, List.mem_append] at hx
    rcases hx with hx | hx
    · exact feedL_good _ _ x hx
    · exact ih _ x hx

theorem all_good (bs : List UInt8) : ∀ x ∈ allL bs, goodB x = true := by
  intro x hx
  rw [allL_eq] at hx
  unfold allLL endLL at hx
  rcases List.mem_append.1 hx with hx | hx
  · exact runL_good _ _ x hx
  · split at hx
    · simp at hx; subst hx; exact good_repl
    · simp at hx

theorem all_again (bs : List UInt8) : allL (textL (allL bs)) = allL bs := by
  rw [all_text]
  have h : ∀ l : List Int, (∀ x ∈ l, goodB x = true) → l.map fix = l := by
    intro l
    induction l with
    | nil => intro _; rfl
    | cons x l ih =>
      intro h
      rw [List.map_cons, fix_good (h x (by simp)), ih fun y hy => h y (by simp [hy])]
  exact h _ (all_good bs)

/-! ### how many -/

def cnt (s : List UInt8) : Nat := if begL s then 1 else 0

theorem begL_nil : begL [] = false := rfl

theorem feedL_zero_cnt (c : UInt8) : (feedL [] c).2.length + cnt (feedL [] c).1 ≤ 1 := by
  rw [feedL_zero]
  split
  · rename_i h; simp [cnt, h]
  · simp [cnt, begL_nil]

theorem feedL_cnt (s : List UInt8) (c : UInt8) : (feedL s c).2.length + cnt (feedL s c).1 ≤ 1 + cnt s := by
  cases hs : saneL s with
  | false =>
    rw [feedL_ins hs]
    have := feedL_zero_cnt c
    omega
  | true =>
    cases hb : begL (s ++ [c]) with
    | true =>
      rw [feedL_beg hs hb]
      simp [cnt, hb]
    | false =>
      by_cases hd : (decL (s ++ [c])).2 = s.length + 1
      · rw [feedL_dec hs hb hd]
        simp [cnt, begL_nil]
      · rw [feedL_rec hs hb hd]
        have h0 := feedL_zero_cnt c
        have hc : cnt s = 1 := by
          unfold cnt
          unfold saneL at hs
          cases s with
          | nil => exact absurd (by simpa using dec1_snd c) hd
          | cons a s => simp at hs; rw [if_pos hs]
        simp
        omega

theorem runL_cnt (s : List UInt8) (bs : List UInt8) : (runL s bs).2.length + cnt (runL s bs).1 ≤ bs.length + cnt s := by
  induction bs generalizing s with
  | nil => simp [runL]
  | cons c bs ih =>
    simp only [runL, List.length_append, List.length_cons]
    have h1 := feedL_cnt s c
    have h2 := ih (feedL s c).1
    omega

theorem all_len (bs : List UInt8) : (allL bs).length ≤ bs.length := by
  rw [allL_eq]
  unfold allLL endLL
  have h := runL_cnt [] bs
  unfold cnt at h
  rw [begL_nil] at h
  split
  · rename_i hb; rw [if_pos hb] at h; simp at h ⊢; omega
  · rename_i hb; rw [if_neg hb] at h; simp at h ⊢; omega

/-! ### what is left may be -/

theorem feedL1_sane (s : List UInt8) (c : UInt8) : saneL (feedL1 s c).1 = true := by
  unfold feedL1
  repeat' split
  · rename_i h; exact saneL_beg h
  · rfl
  · rename_i h; exact saneL_beg h
  · rfl

theorem feedL_sane (s : List UInt8) (c : UInt8) : saneL (feedL s c).1 = true := by
  unfold feedL
  split <;> exact feedL1_sane _ _

theorem runL_sane (s : List UInt8) (hs : saneL s = true) (bs : List UInt8) : saneL (runL s bs).1 = true := by
  induction bs generalizing s with
  | nil => exact hs
  | cons c bs ih => exact ih _ (feedL_sane s c)

theorem saneL_len {s : List UInt8} (h : saneL s = true) : s.length ≤ 3 := by
  rcases Nat.lt_or_ge 3 s.length with h3 | h3
  · unfold saneL at h
    rw [beg4 s h3] at h
    simp at h
    subst h
    simp
  · exact h3

/-! ### ascii -/

def low (l : List Int) : List Int := l.filter fun x => decide (x < 128)

theorem low_append (a b : List Int) : low (a ++ b) = low a ++ low b := by simp [low]

theorem beg_high {s : List UInt8} (h : begL s = true) : 128 ≤ nb s 0 := by
  match s, h with
  | [a], h => have := (beg1 a).1 h; show 128 ≤ a.toNat; omega
  | [a, b], h => have := ((beg2 a b).1 h).lo; show 128 ≤ a.toNat; omega
  | [a, b, c], h => have := ((beg3 a b c).1 h).2.1; show 128 ≤ a.toNat; omega
  | a :: b :: c :: d :: r, h => rw [beg4 _ (by simp)] at h; cases h

theorem low_zero (c : UInt8) : low (feedL [] c).2 = if c.toNat < 128 then [(c.toNat : Int)] else [] := by
  rw [feedL_zero]
  by_cases hc : c.toNat < 128
  · have hb : begL [c] = false := by
      rw [Bool.eq_false_iff]
      intro h
      have := (beg1 c).1 h
      omega
    rw [if_neg (by rw [hb]; simp), dec1_fst, if_pos hc, if_pos hc]
    have : (c.toNat : Int) < 128 := by omega
    simp [low, this]
  · rw [if_neg hc]
    split
    · rfl
    · rw [dec1_fst, if_neg hc]
      rfl

theorem dec_low {s : List UInt8} {c : UInt8} (hs : begL s = true) (hc : c.toNat < 128) : (decL (s ++ [c])).2 = 1 := by
  match s, hs with
  | [a], hs =>
    have h1 := (beg1 a).1 hs
    show (decodeN 2 a.toNat c.toNat 0 0).2 = 1
    unfold decodeN
    rw [if_neg (by omega), if_neg (by omega), if_neg (by omega), if_neg (by omega)]
  | [a, b], hs =>
    have h1 := ((beg2 a b).1 hs).lo
    show (decodeN 3 a.toNat b.toNat c.toNat 0).2 = 1
    unfold decodeN
    rw [if_neg (by omega), if_neg (by omega), if_neg (by omega), if_neg (by omega)]
  | [a, b, d], hs =>
    have h1 := ((beg3 a b d).1 hs).2.1
    show (decodeN 4 a.toNat b.toNat d.toNat c.toNat).2 = 1
    unfold decodeN
    rw [if_neg (by omega), if_neg (by omega), if_neg (by omega), if_neg (by omega)]
  | a :: b :: d :: e :: r, hs => rw [beg4 _ (by simp)] at hs; cases hs

theorem beg_low {s : List UInt8} {c : UInt8} (hs : begL s = true) (hc : c.toNat < 128) : begL (s ++ [c]) = false := by
  rw [Bool.eq_false_iff]
  intro h
  match s, hs with
  | [a], hs =>
    have h1 := (beg2 a c).1 h
    unfold Fits at h1
    omega
  | [a, b], hs =>
    have h1 := (beg3 a b c).1 h
    omega
  | [a, b, d], hs => rw [beg4 _ (by simp)] at h; cases h
  | a :: b :: d :: e :: r, hs => rw [beg4 _ (by simp)] at hs; cases hs

theorem nb_append {s : List UInt8} {c : UInt8} (h : s ≠ []) : nb (s ++ [c]) 0 = nb s 0 := by
  cases s with
  | nil => exact absurd rfl h
  | cons a s => rfl

theorem low_feed (s : List UInt8) (c : UInt8) : low (feedL s c).2 = if c.toNat < 128 then [(c.toNat : Int)] else [] := by
  cases hs : saneL s with
  | false => rw [feedL_ins hs]; exact low_zero c
  | true =>
    by_cases hn : s = []
    · subst hn; exact low_zero c
    · have hbs : begL s = true := by
        unfold saneL at hs
        cases s with
        | nil => exact absurd rfl hn
        | cons a s => simpa using hs
      have hl : s.length ≠ 0 := by
        intro h
        exact hn (List.eq_nil_of_length_eq_zero h)
      by_cases hc : c.toNat < 128
      · rw [feedL_rec hs (beg_low hbs hc) (by rw [dec_low hbs hc]; omega)]
        show low ([65533] ++ _) = _
        rw [low_append, low_zero]
        rfl
      · rw [if_neg hc]
        cases hb : begL (s ++ [c]) with
        | true => rw [feedL_beg hs hb]; rfl
        | false =>
          by_cases hd : (decL (s ++ [c])).2 = s.length + 1
          · rw [feedL_dec hs hb hd]
            have h1 : 128 ≤ (decL (s ++ [c])).1 := by
              unfold decL
              rw [if_neg (by simp)]
              exact decN_high _ _ _ _ _ (by rw [nb_append hn]; exact beg_high hbs)
            have : ¬ ((decL (s ++ [c])).1 : Int) < 128 := by omega
            simp [low, this]
          · rw [feedL_rec hs hb hd]
            show low ([65533] ++ _) = _
            rw [low_append, low_zero, if_neg hc]
            rfl

def lows (bs : List UInt8) : List Int := (bs.filter fun c => decide (c.toNat < 128)).map fun c => (c.toNat : Int)

theorem low_run (s : List UInt8) (bs : List UInt8) : low (runL s bs).2 = lows bs := by
  induction bs generalizing s with
  | nil => rfl
  | cons c bs ih =>
    simp only [runL]
    rw [low_append, low_feed, ih]
    by_cases hc : c.toNat < 128
    · simp [lows, hc]
    · simp [lows, hc]

theorem low_all (bs : List UInt8) : low (allL bs) = lows bs := by
  rw [allL_eq]
  unfold allLL
  rw [low_append, low_run]
  unfold endLL
  split
  · simp [low]
  · simp [low]

/-! ### what begins nothing -/

theorem stray_feed {x : UInt8} (h : (128 ≤ x.toNat ∧ x.toNat ≤ 191) ∨ 248 ≤ x.toNat) : feedL [] x = ([], [65533]) := by
  rw [feedL_zero]
  have hb : begL [x] = false := by
    rw [Bool.eq_false_iff]
    intro h1
    have := (beg1 x).1 h1
    omega
  rw [if_neg (by rw [hb]; simp), dec1_fst, if_neg (by omega)]
  rfl

theorem stray_run {x : UInt8} (h : (128 ≤ x.toNat ∧ x.toNat ≤ 191) ∨ 248 ≤ x.toNat) (k : Nat) : runL [] (List.replicate k x) = ([], List.replicate k 65533) := by
  induction k with
  | zero => rfl
  | succ k ih =>
    rw [List.replicate_succ, List.replicate_succ]
    simp only [runL]
    rw [stray_feed h, ih]
    rfl

theorem stray_all (l : List Int) {x : UInt8} (h : (128 ≤ x.toNat ∧ x.toNat ≤ 191) ∨ 248 ≤ x.toNat) (k : Nat) : allL (textL l ++ List.replicate k x) = l.map fix ++ List.replicate k 65533 := by
  rw [all_rows, all_text, allL_eq]
  unfold allLL
  rw [stray_run h]
  simp [endLL, begL_nil]

end Dec
end Go.Proofs.Ytconccgfhdmafaa
