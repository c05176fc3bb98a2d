/- Texts that stand together. -/
import Derived.Test.YtiidjkhkcckmkaaGreatDoorRows
import Derived.Lib.DecodeNEq
import Derived.Shelf.Unicode.DecodeSlow
import Derived.Lib.RuneBytes
import Derived.Test.YtiidjkhkcckmkaaGreatDoorMthP
import Derived.Test.YtiidjkhkcckmkaaGreatDoorV1
/- Which numbers are scalar values. -/
namespace Go.Proofs.YtiidjkhkcckmkaaGreatDoor
set_option linter.unusedSimpArgs false
set_option linter.unusedVariables false
namespace Dec
def goodB (r : Int) : Bool := decide (0 ≤ r) && decide (r ≤ 1114111) && (decide (r < 55296) || decide (57343 < r))
end Dec
end Go.Proofs.YtiidjkhkcckmkaaGreatDoor

/- The plain mathematics of layer 1 (dec): what a beginning is, what one byte more makes of it, and what that means for whole texts. It speaks of lists of bytes alone, of no program and of no memory. -/
namespace Go.Proofs.YtiidjkhkcckmkaaGreatDoor
set_option linter.unusedSimpArgs false
set_option linter.unusedVariables false
namespace Dec
open Go.Lib
/-- utf8.FullRuneInString, of a text of n bytes that begins with b0 b1 b2 -/
def fullN (n b0 b1 b2 : Nat) : Bool :=
  decide (n ≠ 0) && (decide (firstT b0 % 8 ≤ n) || (decide (1 < n) && decide (b1 < accLo (firstT b0 / 16) ∨ accHi (firstT b0 / 16) < b1)) || (decide (2 < n) && decide (b2 < 128 ∨ 191 < b2)))
def fullB (s : ByteArray) : Bool := fullN s.size (s.get! 0).toNat (s.get! 1).toNat (s.get! 2).toNat
def begB (s : ByteArray) : Bool := decide (s.size ≠ 0) && !fullB s
/-- what is written of a number -/
def fix (r : Int) : Int := if goodB r then r else 65533
def saneB (s : ByteArray) : Bool := decide (s.size = 0) || begB s
end Dec
end Go.Proofs.YtiidjkhkcckmkaaGreatDoor

/- Layer 1 again, as plain mathematics: feeding one byte; what the end tells; whole texts. -/
namespace Go.Proofs.YtiidjkhkcckmkaaGreatDoor
set_option linter.unusedSimpArgs false
set_option linter.unusedVariables false
namespace Dec
open Go.Lib
/-- one byte more, behind a beginning or nothing -/
def feed1 (s : ByteArray) (c : UInt8) : ByteArray × List Int :=
  if begB (s ++ ⟨#[c]⟩) then (s ++ ⟨#[c]⟩, [])
  else if (decodeGo (s ++ ⟨#[c]⟩)).2 = (s ++ ⟨#[c]⟩).size then (⟨#[]⟩, [((decodeGo (s ++ ⟨#[c]⟩)).1 : Int)])
  else if begB (⟨#[]⟩ ++ ⟨#[c]⟩) then (⟨#[]⟩ ++ ⟨#[c]⟩, [65533])
  else (⟨#[]⟩, [65533, ((decodeGo (⟨#[]⟩ ++ ⟨#[c]⟩)).1 : Int)])
def feed (s : ByteArray) (c : UInt8) : ByteArray × List Int := if saneB s then feed1 s c else feed1 ⟨#[]⟩ c
theorem size_one (c : UInt8) : ((⟨#[]⟩ : ByteArray) ++ ⟨#[c]⟩).size = 1 := by rw [ByteArray.size_append]; rfl
theorem decodeGo_one (c : UInt8) : (decodeGo (⟨#[]⟩ ++ ⟨#[c]⟩)).2 = 1 := by
  unfold decodeGo
  rw [if_neg (by rw [size_one]; decide), Lib.decode_at, size_one]
  unfold decodeN
  repeat' split
  all_goals first | rfl | omega
theorem feed1_zero (c : UInt8) : feed1 ⟨#[]⟩ c = if begB (⟨#[]⟩ ++ ⟨#[c]⟩) then (⟨#[]⟩ ++ ⟨#[c]⟩, []) else (⟨#[]⟩, [((decodeGo (⟨#[]⟩ ++ ⟨#[c]⟩)).1 : Int)]) := by
  unfold feed1
  rw [decodeGo_one, size_one]
  rw [if_pos (rfl : (1 : Nat) = 1)]
theorem decodeGo_range (b : ByteArray) : ((decodeGo b).1 : Int) ≤ 1114111 := by
  unfold decodeGo
  split
  · simp
  · rw [Lib.decode_at]
    have h0 := (b.get! 0).toNat_lt
    unfold decodeN
    repeat' split
    all_goals first | (simp; done) | (simp; omega) | (simp_all; omega)
theorem saneB_zero : saneB ⟨#[]⟩ = true := rfl
/-- what is left behind some bytes, and what they told -/
def run (st : ByteArray) (bs : List UInt8) : ByteArray × List Int := bs.foldl (fun p c => ((feed p.1 c).1, p.2 ++ (feed p.1 c).2)) (st, [])
theorem run_nil (st : ByteArray) : run st [] = (st, []) := rfl
theorem run_snoc (st : ByteArray) (bs : List UInt8) (c : UInt8) : run st (bs ++ [c]) = ((feed (run st bs).1 c).1, (run st bs).2 ++ (feed (run st bs).1 c).2) := by
  unfold run
  rw [List.foldl_append]
  rfl
def endL (s : ByteArray) : List Int := if begB s then [65533] else []
def allL (bs : List UInt8) : List Int := (run ⟨#[]⟩ bs).2 ++ endL (run ⟨#[]⟩ bs).1
theorem feed1_len (s : ByteArray) (c : UInt8) : (feed1 s c).2.length ≤ 2 := by
  unfold feed1
  repeat' split
  all_goals simp
theorem feed_len (s : ByteArray) (c : UInt8) : (feed s c).2.length ≤ 2 := by
  unfold feed
  split
  all_goals exact feed1_len _ _
theorem run_snoc_len (st : ByteArray) (bs : List UInt8) (c : UInt8) (n : Nat) (h : (run st bs).2.length ≤ n) : (run st (bs ++ [c])).2.length ≤ n + 2 := by
  rw [run_snoc]
  have := feed_len (run st bs).1 c
  simp
  omega
theorem run_take_len (st : ByteArray) (bs : List UInt8) (k : Nat) : (run st (bs.take k)).2.length ≤ 2 * k := by
  induction k with
  | zero => simp [run_nil]
  | succ k ih =>
    rcases Nat.lt_or_ge k bs.length with h | h
    · rw [List.take_succ_eq_append_getElem h]
      exact run_snoc_len _ _ _ _ ih
    · rw [List.take_of_length_le (by omega)]
      rw [List.take_of_length_le h] at ih
      omega
/-- values' text -/
def textL (l : List Int) : List UInt8 := l.flatMap fun r => Lib.encodeRune (fix r)
theorem textL_snoc (l : List Int) (r : Int) : textL (l ++ [r]) = textL l ++ Lib.encodeRune (fix r) := by simp [textL]
theorem encodeRune_len (r : Int) : (Lib.encodeRune r).length ≤ 4 := by
  unfold Lib.encodeRune Lib.encodeRuneZ
  repeat' split
  all_goals simp
theorem textL_len (l : List Int) : (textL l).length ≤ 4 * l.length := by
  induction l with
  | nil => simp [textL]
  | cons r l ih =>
    have h := encodeRune_len (fix r)
    have e : textL (r :: l) = Lib.encodeRune (fix r) ++ textL l := by simp [textL]
    rw [e]
    simp
    omega
theorem fix_range (r : Int) : -2147483648 ≤ fix r ∧ fix r ≤ 2147483647 := by
  unfold fix
  split
  · rename_i h
    unfold goodB at h
    grind
  · omega
end Dec
end Go.Proofs.YtiidjkhkcckmkaaGreatDoor

/- Layer 1, plain mathematics: what a form's bytes do when they are fed one by one; whole texts; what is told is scalar; how many values there are. -/
namespace Go.Proofs.YtiidjkhkcckmkaaGreatDoor
set_option linter.unusedSimpArgs false
set_option linter.unusedVariables false
namespace Dec
open Go.Lib
theorem cat (x y : Array UInt8) : ((⟨x⟩ : ByteArray) ++ ⟨y⟩) = ⟨x ++ y⟩ := by
  apply ByteArray.ext
  simp
theorem get_at (x : Array UInt8) (i : Nat) : (⟨x⟩ : ByteArray).get! i = x.toList.getD i 0 := by
  show x[i]! = _
  rw [getElem!_def]
  cases h : x[i]? with
  | some v => simp [h]
  | none => simp [h]; rfl
/-- the first byte, the second .. of a list, 0 where there is none -/
def nb (l : List UInt8) (i : Nat) : Nat := (l.getD i 0).toNat
def begL (l : List UInt8) : Bool := decide (l.length ≠ 0) && !fullN l.length (nb l 0) (nb l 1) (nb l 2)
theorem begB_eq (l : List UInt8) : begB ⟨l.toArray⟩ = begL l := by
  unfold begB begL fullB
  simp only [get_at]
  rfl
def decL (l : List UInt8) : Nat × Nat := if l.length = 0 then (65533, 0) else decodeN l.length (nb l 0) (nb l 1) (nb l 2) (nb l 3)
theorem decodeGo_eq (l : List UInt8) : decodeGo ⟨l.toArray⟩ = decL l := by
  unfold decodeGo decL
  rw [Lib.decode_at]
  simp only [get_at]
  rfl
/-- feeding, of lists -/
def feedL1 (s : List UInt8) (c : UInt8) : List UInt8 × List Int :=
  if begL (s ++ [c]) then (s ++ [c], [])
  else if (decL (s ++ [c])).2 = s.length + 1 then ([], [((decL (s ++ [c])).1 : Int)])
  else if begL [c] then ([c], [65533])
  else ([], [65533, ((decL [c]).1 : Int)])
theorem feed1_eq (s : List UInt8) (c : UInt8) : feed1 ⟨s.toArray⟩ c = (⟨(feedL1 s c).1.toArray⟩, (feedL1 s c).2) := by
  unfold feed1 feedL1
  have e1 : ((⟨s.toArray⟩ : ByteArray) ++ ⟨#[c]⟩) = ⟨(s ++ [c]).toArray⟩ := by rw [cat]; simp
  have e2 : ((⟨#[]⟩ : ByteArray) ++ ⟨#[c]⟩) = ⟨[c].toArray⟩ := by rw [cat]; rfl
  have e3 : (⟨(s ++ [c]).toArray⟩ : ByteArray).size = s.length + 1 := by
    show (s ++ [c]).toArray.size = _
    simp
  rw [e1, e2, begB_eq, begB_eq, decodeGo_eq, decodeGo_eq, e3]
  repeat' split
  all_goals rfl
def saneL (s : List UInt8) : Bool := decide (s.length = 0) || begL s
theorem saneB_eq (s : List UInt8) : saneB ⟨s.toArray⟩ = saneL s := by
  unfold saneB saneL
  rw [begB_eq]
  rfl
def feedL (s : List UInt8) (c : UInt8) : List UInt8 × List Int := if saneL s then feedL1 s c else feedL1 [] c
theorem feed_eq (s : List UInt8) (c : UInt8) : feed ⟨s.toArray⟩ c = (⟨(feedL s c).1.toArray⟩, (feedL s c).2) := by
  unfold feed feedL
  rw [saneB_eq]
  split
  · exact feed1_eq s c
  · exact feed1_eq [] c
def runL (s : List UInt8) : List UInt8 → List UInt8 × List Int
  | [] => (s, [])
  | c :: r => ((runL (feedL s c).1 r).1, (feedL s c).2 ++ (runL (feedL s c).1 r).2)
theorem runL_append (s : List UInt8) (a b : List UInt8) : runL s (a ++ b) = ((runL (runL s a).1 b).1, (runL s a).2 ++ (runL (runL s a).1 b).2) := by
  induction a generalizing s with
  | nil => simp [runL]
  | cons c a ih =>
    rw [List.cons_append]
    simp only [runL]
    rw [ih]
    simp [List.append_assoc]
theorem run_eq (bs : List UInt8) : run ⟨#[]⟩ bs = (⟨(runL [] bs).1.toArray⟩, (runL [] bs).2) := by
  have key : ∀ n, ∀ bs : List UInt8, bs.length = n → run ⟨#[]⟩ bs = (⟨(runL [] bs).1.toArray⟩, (runL [] bs).2) := by
    intro n
    induction n with
    | zero =>
      intro bs h
      obtain rfl := List.eq_nil_of_length_eq_zero h
      rfl
    | succ n ih =>
      intro bs h
      rcases List.eq_nil_or_concat bs with rfl | ⟨b, c, rfl⟩
      · simp at h
      · rw [List.concat_eq_append] at h ⊢
        rw [run_snoc, ih b (by simpa using h), feed_eq, runL_append]
        simp [runL]
  exact key _ bs rfl
def endLL (s : List UInt8) : List Int := if begL s then [65533] else []
def allLL (bs : List UInt8) : List Int := (runL [] bs).2 ++ endLL (runL [] bs).1
theorem allL_eq (bs : List UInt8) : allL bs = allLL bs := by
  unfold allL allLL endL endLL
  rw [run_eq, begB_eq]
end Dec
end Go.Proofs.YtiidjkhkcckmkaaGreatDoor

/- Layer 1, plain mathematics: beginnings by their numbers; the forms of scalar values. -/
namespace Go.Proofs.YtiidjkhkcckmkaaGreatDoor
set_option linter.unusedSimpArgs false
set_option linter.unusedVariables false
namespace Dec
open Go.Lib
/-- the second byte fits the first, of a form of three or four bytes -/
def Fits (x y : Nat) : Prop := (x = 224 ∧ 160 ≤ y ∧ y ≤ 191) ∨ (225 ≤ x ∧ x ≤ 239 ∧ x ≠ 237 ∧ 128 ≤ y ∧ y ≤ 191) ∨ (x = 237 ∧ 128 ≤ y ∧ y ≤ 159) ∨ (x = 240 ∧ 144 ≤ y ∧ y ≤ 191) ∨ (241 ≤ x ∧ x ≤ 243 ∧ 128 ≤ y ∧ y ≤ 191) ∨ (x = 244 ∧ 128 ≤ y ∧ y ≤ 143)
theorem Fits.lo {x y : Nat} (h : Fits x y) : 224 ≤ x ∧ x ≤ 244 := by
  unfold Fits at h
  omega
theorem beg4 (l : List UInt8) (h : 4 ≤ l.length) : begL l = false := by
  unfold begL
  have h1 : firstT (nb l 0) % 8 ≤ l.length := by
    rcases Lib.firstT_cases (nb l 0) with hX | hX | hX | hX | hX | hX | hX | hX | hX <;> rw [hX] <;> omega
  have h2 : l.length ≠ 0 := by omega
  have h3 : fullN l.length (nb l 0) (nb l 1) (nb l 2) = true := by
    unfold fullN
    simp only [h1, h2, decide_true, ne_eq, not_false_eq_true, Bool.true_and, Bool.true_or]
  simp [h3]
theorem dec1 (a : UInt8) : decL [a] = decodeN 1 a.toNat 0 0 0 := rfl
end Dec
end Go.Proofs.YtiidjkhkcckmkaaGreatDoor

/- Layer 1, plain mathematics: forms are read again, in whole texts; what is told is scalar; no more values than bytes. -/
namespace Go.Proofs.YtiidjkhkcckmkaaGreatDoor
set_option linter.unusedSimpArgs false
set_option linter.unusedVariables false
namespace Dec
open Go.Lib
theorem feedL_beg {s : List UInt8} {c : UInt8} (h : saneL s = true) (hb : begL (s ++ [c]) = true) : feedL s c = (s ++ [c], []) := by
  unfold feedL feedL1
  rw [if_pos h, if_pos hb]
theorem feedL_dec {s : List UInt8} {c : UInt8} (h : saneL s = true) (hb : begL (s ++ [c]) = false) (hd : (decL (s ++ [c])).2 = s.length + 1) : feedL s c = ([], [((decL (s ++ [c])).1 : Int)]) := by
  unfold feedL feedL1
  rw [if_pos h, if_neg (by rw [hb]; simp), if_pos hd]
theorem dec1_snd (a : UInt8) : (decL [a]).2 = 1 := by
  rw [dec1]
  unfold decodeN
  repeat' split
  all_goals first | rfl | omega
theorem feedL_rec {s : List UInt8} {c : UInt8} (h : saneL s = true) (hb : begL (s ++ [c]) = false) (hd : ¬ (decL (s ++ [c])).2 = s.length + 1) : feedL s c = ((feedL [] c).1, 65533 :: (feedL [] c).2) := by
  have e : feedL [] c = if begL [c] then ([c], []) else ([], [((decL [c]).1 : Int)]) := by
    show feedL1 [] c = _
    unfold feedL1
    rw [List.nil_append, dec1_snd]
    rfl
  rw [e]
  unfold feedL feedL1
  rw [if_pos h, if_neg (by rw [hb]; simp), if_neg hd]
  split <;> rfl
theorem feedL_ins {s : List UInt8} {c : UInt8} (h : saneL s = false) : feedL s c = feedL [] c := by
  have e : feedL [] c = feedL1 [] c := rfl
  rw [e]
  unfold feedL
  rw [if_neg (by rw [h]; simp)]
theorem feedL_zero (c : UInt8) : feedL [] c = if begL [c] then ([c], []) else ([], [((decL [c]).1 : Int)]) := by
  show feedL1 [] c = _
  unfold feedL1
  rw [List.nil_append, dec1_snd]
  rfl
theorem saneL_beg {s : List UInt8} (h : begL s = true) : saneL s = true := by
  unfold saneL
  rw [h]
  simp
theorem goodB_iff (r : Int) : goodB r = true ↔ 0 ≤ r ∧ r ≤ 1114111 ∧ (r < 55296 ∨ 57343 < r) := by
  unfold goodB
  simp [and_assoc]
end Dec
end Go.Proofs.YtiidjkhkcckmkaaGreatDoor

/- Layer 1, plain mathematics: what is told is scalar, and not more than there are bytes; what is below 128 is itself; what begins nothing is Repl. -/
namespace Go.Proofs.YtiidjkhkcckmkaaGreatDoor
set_option linter.unusedSimpArgs false
set_option linter.unusedVariables false
namespace Dec
open Go.Lib
theorem decN_good (n b0 b1 b2 b3 : Nat) : (decodeN n b0 b1 b2 b3).1 ≤ 1114111 ∧ ((decodeN n b0 b1 b2 b3).1 < 55296 ∨ 57343 < (decodeN n b0 b1 b2 b3).1) := by
  unfold decodeN
  by_cases h0 : b0 < 128
  · rw [if_pos h0]; omega
  · rw [if_neg h0]
    split
    · split
      · simp only; omega
      · simp
    · split
      · split
        · simp only; omega
        · simp
      · split
        · split
          · simp only; omega
          · simp
        · simp
theorem decL_good (l : List UInt8) : goodB ((decL l).1 : Int) = true := by
  unfold decL
  split
  · decide
  · have := decN_good l.length (nb l 0) (nb l 1) (nb l 2) (nb l 3)
    rw [goodB_iff]
    omega
theorem good_repl : goodB 65533 = true := by decide
theorem feedL1_good (s : List UInt8) (c : UInt8) : ∀ x ∈ (feedL1 s c).2, goodB x = true := by
  intro x hx
  unfold feedL1 at hx
  repeat' split at hx
  · simp at hx
  · simp at hx; subst hx; exact decL_good _
  · simp at hx; subst hx; exact good_repl
  · simp at hx
    rcases hx with rfl | rfl
    · exact good_repl
    · exact decL_good _
theorem feedL_good (s : List UInt8) (c : UInt8) : ∀ x ∈ (feedL s c).2, goodB x = true := by
  unfold feedL
  split
  · exact feedL1_good _ _
  · exact feedL1_good _ _
theorem runL_good (s : List UInt8) (bs : List UInt8) : ∀ x ∈ (runL s bs).2, goodB x = true := by
  induction bs generalizing s with
  | nil => simp [runL]
  | cons c bs ih =>
    intro x hx
    simp only [runL, List.mem_append] at hx
    rcases hx with hx | hx
    · exact feedL_good _ _ x hx
    · exact ih _ x hx
theorem all_good (bs : List UInt8) : ∀ x ∈ allL bs, goodB x = true := by
  intro x hx
  rw [allL_eq] at hx
  unfold allLL endLL at hx
  rcases List.mem_append.1 hx with hx | hx
  · exact runL_good _ _ x hx
  · split at hx
    · simp at hx; subst hx; exact good_repl
    · simp at hx
def cnt (s : List UInt8) : Nat := if begL s then 1 else 0
theorem begL_nil : begL [] = false := rfl
theorem feedL_zero_cnt (c : UInt8) : (feedL [] c).2.length + cnt (feedL [] c).1 ≤ 1 := by
  rw [feedL_zero]
  split
  · rename_i h; simp [cnt, h]
  · simp [cnt, begL_nil]
theorem feedL_cnt (s : List UInt8) (c : UInt8) : (feedL s c).2.length + cnt (feedL s c).1 ≤ 1 + cnt s := by
  cases hs : saneL s with
  | false =>
    rw [feedL_ins hs]
    have := feedL_zero_cnt c
    omega
  | true =>
    cases hb : begL (s ++ [c]) with
    | true =>
      rw [feedL_beg hs hb]
      simp [cnt, hb]
    | false =>
      by_cases hd : (decL (s ++ [c])).2 = s.length + 1
      · rw [feedL_dec hs hb hd]
        simp [cnt, begL_nil]
      · rw [feedL_rec hs hb hd]
        have h0 := feedL_zero_cnt c
        have hc : cnt s = 1 := by
          unfold cnt
          unfold saneL at hs
          cases s with
          | nil => exact absurd (by simpa using dec1_snd c) hd
          | cons a s => simp at hs; rw [if_pos hs]
        simp
        omega
theorem runL_cnt (s : List UInt8) (bs : List UInt8) : (runL s bs).2.length + cnt (runL s bs).1 ≤ bs.length + cnt s := by
  induction bs generalizing s with
  | nil => simp [runL]
  | cons c bs ih =>
    simp only [runL, List.length_append, List.length_cons]
    have h1 := feedL_cnt s c
    have h2 := ih (feedL s c).1
    omega
theorem all_len (bs : List UInt8) : (allL bs).length ≤ bs.length := by
  rw [allL_eq]
  unfold allLL endLL
  have h := runL_cnt [] bs
  unfold cnt at h
  rw [begL_nil] at h
  split
  · rename_i hb; rw [if_pos hb] at h; simp at h ⊢; omega
  · rename_i hb; rw [if_neg hb] at h; simp at h ⊢; omega
theorem feedL1_sane (s : List UInt8) (c : UInt8) : saneL (feedL1 s c).1 = true := by
  unfold feedL1
  repeat' split
  · rename_i h; exact saneL_beg h
  · rfl
  · rename_i h; exact saneL_beg h
  · rfl
theorem feedL_sane (s : List UInt8) (c : UInt8) : saneL (feedL s c).1 = true := by
  unfold feedL
  split <;> exact feedL1_sane _ _
theorem runL_sane (s : List UInt8) (hs : saneL s = true) (bs : List UInt8) : saneL (runL s bs).1 = true := by
  induction bs generalizing s with
  | nil => exact hs
  | cons c bs ih => exact ih _ (feedL_sane s c)
theorem saneL_len {s : List UInt8} (h : saneL s = true) : s.length ≤ 3 := by
  rcases Nat.lt_or_ge 3 s.length with h3 | h3
  · unfold saneL at h
    rw [beg4 s h3] at h
    simp at h
    subst h
    simp
  · exact h3
def low (l : List Int) : List Int := l.filter fun x => decide (x < 128)
end Dec
end Go.Proofs.YtiidjkhkcckmkaaGreatDoor

/- Layer 6, plain mathematics: values without their case. -/
namespace Go.Proofs.YtiidjkhkcckmkaaGreatDoor.Cas
set_option linter.unusedSimpArgs false
set_option linter.unusedVariables false
def T : List (Int × List Int) := [
  (65, [97]), (66, [98]), (67, [99]), (68, [100]), (69, [101]), (70, [102]), (71, [103]), (72, [104]), (73, [105]), (74, [106]), (75, [107]), (76, [108]), (77, [109]),
  (78, [110]), (79, [111]), (80, [112]), (81, [113]), (82, [114]), (83, [115]), (84, [116]), (85, [117]), (86, [118]), (87, [119]), (88, [120]), (89, [121]), (90, [122]),
  (181, [956]), (192, [224]), (193, [225]), (194, [226]), (195, [227]), (196, [228]), (197, [229]), (198, [230]), (199, [231]), (200, [232]), (201, [233]), (202, [234]),
  (203, [235]), (204, [236]), (205, [237]), (206, [238]), (207, [239]), (208, [240]), (209, [241]), (210, [242]), (211, [243]), (212, [244]), (213, [245]), (214, [246]),
  (216, [248]), (217, [249]), (218, [250]), (219, [251]), (220, [252]), (221, [253]), (222, [254]), (223, [115, 115]), (256, [257]), (258, [259]), (260, [261]),
  (262, [263]), (264, [265]), (266, [267]), (268, [269]), (270, [271]), (272, [273]), (274, [275]), (276, [277]), (278, [279]), (280, [281]), (282, [283]), (284, [285]),
  (286, [287]), (288, [289]), (290, [291]), (292, [293]), (294, [295]), (296, [297]), (298, [299]), (300, [301]), (302, [303]), (304, [105, 775]), (306, [307]),
  (308, [309]), (310, [311]), (313, [314]), (315, [316]), (317, [318]), (319, [320]), (321, [322]), (323, [324]), (325, [326]), (327, [328]), (329, [700, 110]),
  (330, [331]), (332, [333]), (334, [335]), (336, [337]), (338, [339]), (340, [341]), (342, [343]), (344, [345]), (346, [347]), (348, [349]), (350, [351]), (352, [353]),
  (354, [355]), (356, [357]), (358, [359]), (360, [361]), (362, [363]), (364, [365]), (366, [367]), (368, [369]), (370, [371]), (372, [373]), (374, [375]), (376, [255]),
  (377, [378]), (379, [380]), (381, [382]), (383, [115]), (416, [417]), (418, [419]), (420, [421]), (422, [640]), (423, [424]), (425, [643]), (428, [429]), (430, [648]),
  (431, [432]), (837, [953]), (902, [940]), (904, [941]), (905, [942]), (906, [943]), (908, [972]), (910, [973]), (911, [974]), (912, [953, 776, 769]), (913, [945]),
  (914, [946]), (915, [947]), (916, [948]), (917, [949]), (918, [950]), (919, [951]), (920, [952]), (921, [953]), (922, [954]), (923, [955]), (924, [956]), (925, [957]),
  (926, [958]), (927, [959]), (928, [960]), (929, [961]), (931, [963]), (932, [964]), (933, [965]), (934, [966]), (935, [967]), (936, [968]), (937, [969]), (938, [970]),
  (939, [971]), (944, [965, 776, 769]), (962, [963]), (7840, [7841]), (7842, [7843]), (7844, [7845]), (7846, [7847]), (7848, [7849]), (7850, [7851]), (7852, [7853]),
  (7854, [7855]), (7856, [7857]), (7858, [7859]), (7860, [7861]), (7862, [7863]), (7864, [7865]), (7866, [7867]), (7868, [7869]), (7870, [7871]), (7872, [7873]),
  (7874, [7875]), (7876, [7877]), (7878, [7879]), (7880, [7881]), (7882, [7883]), (7884, [7885]), (7886, [7887]), (7888, [7889]), (7890, [7891]), (7892, [7893]),
  (7894, [7895]), (7896, [7897]), (7898, [7899]), (7900, [7901]), (7902, [7903]), (7904, [7905]), (7906, [7907]), (7908, [7909]), (7910, [7911]), (7912, [7913]),
  (7914, [7915]), (7916, [7917]), (7918, [7919]), (7920, [7921]), (7922, [7923]), (7924, [7925]), (7926, [7927]), (7928, [7929])]
def foldI (r : Int) : List Int := (Lk.look T r).getD [r]
theorem fold_self {r : Int} (h : ∀ s ∈ T, s.1 ≠ r) : foldI r = [r] := by unfold foldI; rw [Lk.look_none h]; rfl
theorem parts_far : ∀ s ∈ T, ∀ x ∈ s.2, ∀ t ∈ T, t.1 ≠ x := by decide +kernel
theorem fold_cases (r : Int) : foldI r = [r] ∨ (r, foldI r) ∈ T := by
  cases e : Lk.look T r with
  | none => left; unfold foldI; rw [e]; rfl
  | some p =>
    right
    have h : foldI r = p := by unfold foldI; rw [e]; rfl
    rw [h]
    exact Lk.look_mem e
/-- what is folded is folded once -/
theorem fold_once (r : Int) : ∀ x ∈ foldI r, foldI x = [x] := by
  intro x hx
  rcases fold_cases r with h | h
  · rw [h] at hx
    obtain rfl : x = r := by simpa using hx
    exact h
  · exact fold_self (parts_far _ h x hx)
theorem rows_len : ∀ s ∈ T, 1 ≤ s.2.length ∧ s.2.length ≤ 3 := by decide +kernel
theorem fold_len (r : Int) : 1 ≤ (foldI r).length ∧ (foldI r).length ≤ 3 := by
  rcases fold_cases r with h | h
  · rw [h]; simp
  · exact rows_len _ h
theorem rows_good : ∀ s ∈ T, ∀ x ∈ s.2, Dec.goodB x = true := by decide +kernel
theorem fold_good {r : Int} (hg : Dec.goodB r = true) : ∀ x ∈ foldI r, Dec.goodB x = true := by
  intro x hx
  rcases fold_cases r with h | h
  · rw [h] at hx
    obtain rfl : x = r := by simpa using hx
    exact hg
  · exact rows_good _ h x hx
/-- all of them -/
def allI (l : List Int) : List Int := l.flatMap foldI
theorem all_append (a b : List Int) : allI (a ++ b) = allI a ++ allI b := by unfold allI; rw [List.flatMap_append]
theorem all_snoc (l : List Int) (r : Int) : allI (l ++ [r]) = allI l ++ foldI r := by rw [all_append]; simp [allI]
theorem all_len (l : List Int) : l.length ≤ (allI l).length ∧ (allI l).length ≤ 3 * l.length := by
  induction l with
  | nil => simp [allI]
  | cons r l ih =>
    have h := fold_len r
    have e : allI (r :: l) = foldI r ++ allI l := rfl
    rw [e, List.length_append, List.length_cons]
    omega
theorem all_of_once {l : List Int} (h : ∀ x ∈ l, foldI x = [x]) : allI l = l := by
  induction l with
  | nil => rfl
  | cons r l ih =>
    have e : allI (r :: l) = foldI r ++ allI l := rfl
    rw [e, h r (List.mem_cons_self ..), ih fun x hx => h x (List.mem_cons_of_mem _ hx)]
    rfl
theorem all_fold (r : Int) : allI (foldI r) = foldI r := all_of_once (fold_once r)
/-- capitals are thirty-two ahead -/
def cap (k : Nat) : Int := if 57 ≤ k then 0x391 + (k : Int) - 57 else if 26 ≤ k then 0xC0 + (k : Int) - 26 else 65 + (k : Int)
end Go.Proofs.YtiidjkhkcckmkaaGreatDoor.Cas

/- Layer 8, plain mathematics: one form of all that are alike. -/
namespace Go.Proofs.YtiidjkhkcckmkaaGreatDoor.Nfk
set_option linter.unusedSimpArgs false
set_option linter.unusedVariables false
open Prp (mrkB cccI)
open Dcp (fullI)
open Can
/-- never more than thirty marks in a row; n are ahead -/
def safeI : List Int → Nat → List Int
  | [], _ => []
  | x :: t, n => if mrkB x = true then (if n = 30 then 847 :: x :: safeI t 1 else x :: safeI t (n + 1)) else x :: safeI t 0
def madeI (l : List Int) : List Int := l.flatMap fullI
def nfkdI (l : List Int) : List Int := orderI (safeI (madeI l) 0)
def nfkcI (l : List Int) : List Int := composeI (nfkdI l)
theorem mrk847 : mrkB 847 = false := by decide +kernel
theorem safe_mem {l : List Int} {n : Nat} {x : Int} (h : x ∈ safeI l n) : x ∈ l ∨ x = 847 := by
  induction l generalizing n with
  | nil => cases h
  | cons y t ih =>
    unfold safeI at h
    split at h
    · split at h
      · rcases List.mem_cons.1 h with rfl | h
        · exact .inr rfl
        · rcases List.mem_cons.1 h with rfl | h
          · exact .inl (List.mem_cons_self ..)
          · exact (ih h).imp (List.mem_cons_of_mem _) id
      · rcases List.mem_cons.1 h with rfl | h
        · exact .inl (List.mem_cons_self ..)
        · exact (ih h).imp (List.mem_cons_of_mem _) id
    · rcases List.mem_cons.1 h with rfl | h
      · exact .inl (List.mem_cons_self ..)
      · exact (ih h).imp (List.mem_cons_of_mem _) id
theorem run_le (b : List Bool) (k : Nat) : runB b k ≤ k + b.length := by
  induction b generalizing k with
  | nil => simp [runB]
  | cons x t ih =>
    simp only [runB, List.length_cons]
    cases x with
    | true => have := ih (k + 1); simp only [if_true]; omega
    | false => have := ih 0; simp only [Bool.false_eq_true, if_false]; omega
theorem run_app (a b : List Bool) (n : Nat) : runB (a ++ b) n ≤ max n (runB a n) + b.length := by
  induction a generalizing n with
  | nil => have := run_le b n; simp only [List.nil_append]; omega
  | cons x t ih =>
    simp only [List.cons_append, runB]
    cases x with
    | true => have := ih (n + 1); simp only [if_true]; omega
    | false => have := ih 0; simp only [Bool.false_eq_true, if_false]; omega
/-- what is put between: one for each thirty marks at most -/
theorem safe_len (l : List Int) (n : Nat) (hn : n ≤ 30) : l.length ≤ (safeI l n).length ∧ 30 * ((safeI l n).length - l.length) ≤ l.length + n := by
  induction l generalizing n with
  | nil => simp [safeI]
  | cons x t ih =>
    unfold safeI
    split
    · split
      · have := ih 1 (by omega)
        simp only [List.length_cons]
        omega
      · have := ih (n + 1) (by omega)
        simp only [List.length_cons]
        omega
    · have := ih 0 (by omega)
      simp only [List.length_cons]
      omega
end Go.Proofs.YtiidjkhkcckmkaaGreatDoor.Nfk

/- Layer 9, plain mathematics: that form, value by value. -/
namespace Go.Proofs.YtiidjkhkcckmkaaGreatDoor.Nor
set_option linter.unusedSimpArgs false
set_option linter.unusedVariables false
open Prp (mrkB cccI)
open Dcp (fullI)
open Par (joinI)
open Can Nfk
def cntI (l : List Int) : Nat := (l.filter mrkB).length
/-- what is kept, and what is told, where a value that is no mark is put -/
def headI (l : List Int) (d : Int) : List Int × List Int :=
  match composeI l with
  | [x] => if mrkB x = false then (match joinI x d with | some v => ([v], []) | none => ([d], [x])) else ([d], [x])
  | c => ([d], c)
def insI (l : List Int) (d : Int) : List Int := (insR d l.reverse).reverse
def putI (l : List Int) (d : Int) : List Int × List Int :=
  if mrkB d = true then (if cntI l = 30 then (insI (headI l 847).1 d, (headI l 847).2) else (insI l d, [])) else headI l d
/-- some values put, one behind the other: what is kept, what is told -/
def runI : List Int → List Int → List Int × List Int
  | l, [] => (l, [])
  | l, d :: t => ((runI (putI l d).1 t).1, (putI l d).2 ++ (runI (putI l d).1 t).2)
def saneB (l : List Int) : Bool := l.tail.all mrkB && decide (cntI l ≤ 30) && sortedB l
def feedI (l : List Int) (r : Int) : List Int × List Int := runI (if saneB l = true then l else []) (fullI r)
def endI (l : List Int) : List Int := if saneB l = true then composeI l else []
/-- values fed, one behind the other -/
def feedsI : List Int → List Int → List Int × List Int
  | l, [] => (l, [])
  | l, r :: t => ((feedsI (feedI l r).1 t).1, (feedI l r).2 ++ (feedsI (feedI l r).1 t).2)
def allI (l : List Int) : List Int := (feedsI [] l).2 ++ endI (feedsI [] l).1
theorem run_app (l a b : List Int) : runI l (a ++ b) = ((runI (runI l a).1 b).1, (runI l a).2 ++ (runI (runI l a).1 b).2) := by
  induction a generalizing l with
  | nil => simp [runI]
  | cons d t ih => simp only [List.cons_append, runI]; rw [ih]; simp
/-- what may be kept -/
structure Kept (l : List Int) : Prop where
  form : ∃ H M, l = H ++ M ∧ (∀ m ∈ M, mrkB m = true) ∧ (H = [] ∨ ∃ h, H = [h] ∧ mrkB h = false)
  few : cntI l ≤ 30
  ord : sortedB l = true
theorem kept_sane {l : List Int} (h : Kept l) : saneB l = true := by
  obtain ⟨H, M, rfl, hM, hH⟩ := h.form
  unfold saneB
  rw [h.ord, decide_eq_true h.few]
  have : (H ++ M).tail.all mrkB = true := by
    rcases hH with rfl | ⟨x, rfl, _⟩
    · simp only [List.nil_append, List.all_eq_true]
      intro m hm
      exact hM m (List.mem_of_mem_tail hm)
    · simp only [List.singleton_append, List.tail_cons, List.all_eq_true]
      exact hM
  rw [this]
  rfl
theorem sane_kept {l : List Int} (h : saneB l = true) : Kept l := by
  unfold saneB at h
  simp only [Bool.and_eq_true, decide_eq_true_eq, List.all_eq_true] at h
  obtain ⟨⟨h1, h2⟩, h3⟩ := h
  refine ⟨?_, h2, h3⟩
  cases l with
  | nil => exact ⟨[], [], rfl, (fun _ h => by cases h), .inl rfl⟩
  | cons x t =>
    by_cases hx : mrkB x = true
    · refine ⟨[], x :: t, rfl, fun m hm => ?_, .inl rfl⟩
      rcases List.mem_cons.1 hm with rfl | hm
      · exact hx
      · exact h1 m hm
    · exact ⟨[x], t, rfl, h1, .inr ⟨x, rfl, by simpa using hx⟩⟩
theorem kept_nil : Kept [] := ⟨⟨[], [], rfl, (fun _ h => by cases h), .inl rfl⟩, by decide, rfl⟩
theorem kept_one {v : Int} (hv : mrkB v = false) : Kept [v] := ⟨⟨[v], [], rfl, (fun _ h => by cases h), .inr ⟨v, rfl, hv⟩⟩, by simp [cntI, hv], rfl⟩
theorem cnt_marks {M : List Int} (h : ∀ m ∈ M, mrkB m = true) : cntI M = M.length := by
  unfold cntI
  rw [List.filter_eq_self.2 h]
theorem cnt_head {H M : List Int} (hM : ∀ m ∈ M, mrkB m = true) (hH : H = [] ∨ ∃ h, H = [h] ∧ mrkB h = false) : cntI (H ++ M) = M.length := by
  rcases hH with rfl | ⟨x, rfl, hx⟩
  · exact cnt_marks hM
  · unfold cntI
    rw [List.singleton_append, List.filter_cons, hx]
    simp only [Bool.false_eq_true, if_false]
    rw [List.filter_eq_self.2 hM]
theorem kept_len {l : List Int} (h : Kept l) : l.length ≤ 31 := by
  obtain ⟨H, M, rfl, hM, hH⟩ := h.form
  have := h.few
  rw [cnt_head hM hH] at this
  rcases hH with rfl | ⟨x, rfl, _⟩ <;> simp <;> omega
theorem not847 (x : Int) : joinI x 847 = none := not_second mrk847 (by omega) x
theorem head847 (l : List Int) : headI l 847 = ([847], composeI l) := by
  unfold headI
  cases composeI l with
  | nil => rfl
  | cons x t =>
    cases t with
    | nil => simp only [not847]; split <;> rfl
    | cons y u => rfl
theorem compR_marks {M : List Int} (h : ∀ m ∈ M, mrkB m = true) (R : List Int) (hR : ∀ m ∈ R, mrkB m = true) : compR M R = M.reverse ++ R := by
  induction M generalizing R with
  | nil => rfl
  | cons x t ih =>
    have e : cstep R x = x :: R := by
      unfold cstep
      split
      · rfl
      · rw [putR_marks hR]; rfl
    rw [compR_cons, e, ih (fun m hm => h m (List.mem_cons_of_mem _ hm)) (x :: R) (by
      intro m hm
      rcases List.mem_cons.1 hm with rfl | hm
      · exact h m (List.mem_cons_self ..)
      · exact hR m hm)]
    simp
/-- marks put together with one head: marks behind one head -/
theorem compR_one {M : List Int} (hM : ∀ m ∈ M, mrkB m = true) (N : List Int) (hN : ∀ m ∈ N, mrkB m = true) {h : Int} (hh : mrkB h = false) :
    ∃ N' h', compR M (N ++ [h]) = N' ++ [h'] ∧ (∀ m ∈ N', mrkB m = true) ∧ mrkB h' = false := by
  induction M generalizing N h with
  | nil => exact ⟨N, h, rfl, hN, hh⟩
  | cons x t ih =>
    have ht : ∀ m ∈ t, mrkB m = true := fun m hm => hM m (List.mem_cons_of_mem _ hm)
    have hx := hM x (List.mem_cons_self ..)
    have told : cstep (N ++ [h]) x = x :: (N ++ [h]) → ∃ N' h', compR (x :: t) (N ++ [h]) = N' ++ [h'] ∧ (∀ m ∈ N', mrkB m = true) ∧ mrkB h' = false := by
      intro e
      rw [compR_cons, e]
      refine ih ht (x :: N) (fun m hm => ?_) hh
      rcases List.mem_cons.1 hm with rfl | hm
      · exact hx
      · exact hN m hm
    by_cases hb : blockR x (N ++ [h]) = true
    · exact told (by unfold cstep; rw [if_pos hb])
    · cases e2 : joinI h x with
      | none =>
        refine told ?_
        unfold cstep
        rw [if_neg hb, putR_head hN hh, e2]
        rfl
      | some v =>
        have e : cstep (N ++ [h]) x = N ++ [v] := by
          unfold cstep
          rw [if_neg hb, putR_head hN hh, e2]
          rfl
        rw [compR_cons, e]
        exact ih ht N hN (join_facts e2).1
theorem compR_nil_head {h : Int} (M : List Int) : compR (h :: M) [] = compR M [h] := by
  rw [compR_cons]
  have : cstep [] h = [h] := by simp [cstep, blockR, putR]
  rw [this]
/-- what holds of what is kept (l) and told (out) behind the values put so far, which are s with what is put between -/
structure At (s l out : List Int) : Prop where
  at_ : ∃ W M, orderR s [] = M.reverse ++ W.reverse ∧ (∀ m ∈ M, mrkB m = true) ∧ M.length ≤ 30 ∧
    ((W = [] ∧ l = M ∧ out = []) ∨ ∃ h W' x, mrkB h = false ∧ l = h :: M ∧ compR W [] = h :: out.reverse ∧ W = W' ++ [x] ∧ mrkB x = false)
theorem at_nil : At [] [] [] := ⟨[], [], rfl, (fun _ h => by cases h), by simp, .inl ⟨rfl, rfl, rfl⟩⟩
/-- at the end -/
theorem at_end {s l out : List Int} (hA : At s l out) : composeI (orderI s) = out ++ composeI l := by
  obtain ⟨W, M, ho, hM, _, hor⟩ := hA.at_
  have e : orderI s = W ++ M := by unfold orderI; rw [ho]; simp
  rw [e]
  rcases hor with ⟨rfl, rfl, rfl⟩ | ⟨h, W', x, hh, rfl, hc, _, _⟩
  · rfl
  · unfold composeI
    rw [compR_app, hc, compR_nil_head]
    have := compR_head M hh [] out.reverse
    simp only [List.nil_append] at this
    rw [this]
    simp
/-- a value that is no mark -/
theorem at_head {s l out : List Int} {d : Int} (hA : At s l out) (hd : mrkB d = false) : At (s ++ [d]) (headI l d).1 (out ++ (headI l d).2) := by
  obtain ⟨W, M, ho, hM, hlen, hor⟩ := hA.at_
  have hd0 := (mrk_no d).1 hd
  have ho2 : orderR (s ++ [d]) [] = [].reverse ++ (W ++ M ++ [d]).reverse := by
    rw [orderR_app, ho, orderR_one]
    unfold stepR
    rw [hd]
    simp
  have no : ∀ (m : Int), m ∈ ([] : List Int) → mrkB m = true := fun _ h => by cases h
  rcases hor with ⟨rfl, rfl, rfl⟩ | ⟨h, W', x, hh, rfl, hc, _, _⟩
  · -- only marks so far
    have hcl : compR l [] = l.reverse := by rw [compR_marks hM [] no, List.append_nil]
    have hcI : composeI l = l := by unfold composeI; rw [hcl, List.reverse_reverse]
    have hst : cstep l.reverse d = d :: l.reverse := by
      unfold cstep
      split
      · rfl
      · rw [putR_marks (fun m hm => hM m (List.mem_reverse.1 hm))]; rfl
    have hI : headI l d = ([d], l) := by
      unfold headI
      rw [hcI]
      cases l with
      | nil => rfl
      | cons y u =>
        cases u with
        | nil => simp only; rw [if_neg (by rw [hM y (List.mem_cons_self ..)]; decide)]
        | cons z w => rfl
    rw [hI]
    refine ⟨[] ++ l ++ [d], [], ho2, no, by simp, .inr ⟨d, [] ++ l, d, hd, rfl, ?_, rfl, hd⟩⟩
    rw [List.nil_append, compR_app, hcl, compR_cons, hst]
    simp [compR]
  · obtain ⟨N, h', hN, hNm, hh'⟩ := compR_one hM [] no hh
    simp only [List.nil_append] at hN
    have hcI : composeI (h :: M) = h' :: N.reverse := by unfold composeI; rw [compR_nil_head, hN]; simp
    have hall : compR (W ++ M) [] = N ++ h' :: out.reverse := by
      rw [compR_app, hc]
      have := compR_head M hh [] out.reverse
      simp only [List.nil_append] at this
      rw [this, hN]
      simp
    have hlast : ∀ l2 o2, headI (h :: M) d = (l2, o2) → (∃ v, mrkB v = false ∧ l2 = [v] ∧ cstep (N ++ h' :: out.reverse) d = v :: (out ++ o2).reverse) → At (s ++ [d]) l2 (out ++ o2) := by
      rintro l2 o2 _ ⟨v, hv, rfl, e⟩
      refine ⟨W ++ M ++ [d], [], ho2, no, by simp, .inr ⟨v, W ++ M, d, hv, rfl, ?_, rfl, hd⟩⟩
      rw [compR_app, hall]
      exact e
    cases N with
    | nil =>
      simp only [List.reverse_nil] at hcI
      cases e2 : joinI h' d with
      | none =>
        have hI : headI (h :: M) d = ([d], [h']) := by unfold headI; rw [hcI]; simp only [hh', e2, if_true]
        have := hlast [d] [h'] hI ⟨d, hd, rfl, by
          unfold cstep
          split
          · simp
          · rw [List.nil_append, show h' :: out.reverse = [] ++ h' :: out.reverse from rfl, putR_head no hh', e2]; simp⟩
        rw [hI]
        exact this
      | some v =>
        have hI : headI (h :: M) d = ([v], []) := by unfold headI; rw [hcI]; simp only [hh', e2, if_true]
        have hv := (join_facts e2).1
        have := hlast [v] [] hI ⟨v, hv, rfl, by
          unfold cstep
          rw [if_neg (by simp [blockR, hh'])]
          rw [List.nil_append, show h' :: out.reverse = [] ++ h' :: out.reverse from rfl, putR_head no hh', e2]
          simp⟩
        rw [hI]
        exact this
    | cons y u =>
      have hy := hNm y (List.mem_cons_self ..)
      have hI : headI (h :: M) d = ([d], h' :: (y :: u).reverse) := by
        unfold headI
        rw [hcI]
        have : ∃ z w, (y :: u).reverse = z :: w := by
          cases e : (y :: u).reverse with
          | nil => simp at e
          | cons z w => exact ⟨z, w, rfl⟩
        obtain ⟨z, w, e⟩ := this
        rw [e]
      have := hlast [d] (h' :: (y :: u).reverse) hI ⟨d, hd, rfl, by
        unfold cstep
        have hb : blockR d (y :: u ++ h' :: out.reverse) = true := by
          have := (mrk_iff y).1 hy
          simp only [List.cons_append, blockR, hy, Bool.true_and, decide_eq_true_eq]
          omega
        rw [if_pos hb]
        simp⟩
      rw [hI]
      exact this
theorem insR_marks {d : Int} {N : List Int} (hd : mrkB d = true) (h : ∀ m ∈ N, mrkB m = true) : ∀ m ∈ insR d N, mrkB m = true := by
  induction N with
  | nil => intro m hm; obtain rfl : m = d := by simpa [insR] using hm
           exact hd
  | cons x t ih =>
    intro m hm
    unfold insR at hm
    split at hm
    · rcases List.mem_cons.1 hm with rfl | hm
      · exact h m (List.mem_cons_self ..)
      · exact ih (fun y hy => h y (List.mem_cons_of_mem _ hy)) m hm
    · rcases List.mem_cons.1 hm with rfl | hm
      · exact hd
      · exact h m hm
/-- a mark, where there is room -/
theorem at_mark {s l out : List Int} {d : Int} (hA : At s l out) (hd : mrkB d = true) (hr : cntI l < 30) : At (s ++ [d]) (insI l d) out := by
  obtain ⟨W, M, ho, hM, hlen, hor⟩ := hA.at_
  have hMr : ∀ m ∈ M.reverse, mrkB m = true := fun m hm => hM m (List.mem_reverse.1 hm)
  have hMn : ∀ m ∈ (insR d M.reverse).reverse, mrkB m = true := fun m hm => insR_marks hd hMr m (List.mem_reverse.1 hm)
  have hln : ((insR d M.reverse).reverse).length = M.length + 1 := by rw [List.length_reverse, insR_len, List.length_reverse]
  rcases hor with ⟨rfl, rfl, rfl⟩ | ⟨h, W', x, hh, rfl, hc, rfl, hx⟩
  · rw [cnt_marks hM] at hr
    refine ⟨[], insI l d, ?_, hMn, by unfold insI; omega, .inl ⟨rfl, rfl, rfl⟩⟩
    rw [orderR_app, ho, orderR_one]
    unfold stepR insI
    rw [if_pos hd]
    simp
  · rw [show h :: M = [h] ++ M from rfl, cnt_head hM (.inr ⟨h, rfl, hh⟩)] at hr
    refine ⟨W' ++ [x], (insR d M.reverse).reverse, ?_, hMn, by omega, .inr ⟨h, W', x, hh, ?_, hc, rfl, hx⟩⟩
    · rw [orderR_app, ho, orderR_one]
      unfold stepR
      rw [if_pos hd]
      simp only [List.reverse_append, List.reverse_cons, List.reverse_nil, List.nil_append, List.singleton_append, List.reverse_reverse]
      rw [insR_app hx]
      have : insR d (M.reverse ++ [x]) = insR d M.reverse ++ [x] := by
        have h2 : ∀ N : List Int, insR d (N ++ [x]) = insR d N ++ [x] := by
          intro N
          induction N with
          | nil => simp [insR, hx]
          | cons y t ih =>
            simp only [List.cons_append]
            unfold insR
            split
            · rw [ih]; rfl
            · rfl
        exact h2 _
      rw [this]
      simp
    · unfold insI
      rw [List.reverse_cons]
      have h2 : ∀ N : List Int, insR d (N ++ [h]) = insR d N ++ [h] := by
        intro N
        induction N with
        | nil => simp [insR, hh]
        | cons y t ih =>
          simp only [List.cons_append]
          unfold insR
          split
          · rw [ih]; rfl
          · rfl
      rw [h2]
      simp
theorem at_put {s l out : List Int} {d : Int} (hA : At s l out) : At (s ++ safeI [d] (cntI l)) (putI l d).1 (out ++ (putI l d).2) := by
  unfold putI
  by_cases hd : mrkB d = true
  · rw [if_pos hd]
    by_cases h30 : cntI l = 30
    · rw [if_pos h30]
      have e : safeI [d] (cntI l) = [847] ++ [d] := by simp [safeI, hd, h30]
      rw [e, ← List.append_assoc]
      have h1 := at_head hA mrk847
      rw [head847] at h1 ⊢
      have := at_mark h1 hd (by simp [cntI, mrk847])
      exact this
    · rw [if_neg h30]
      have e : safeI [d] (cntI l) = [d] := by simp [safeI, hd, h30]
      have hlt : cntI l < 30 := by
        obtain ⟨W, M, ho, hM, hlen, hor⟩ := hA.at_
        have : cntI l = M.length := by
          rcases hor with ⟨_, rfl, _⟩ | ⟨h, W', x, hh, rfl, _⟩
          · exact cnt_marks hM
          · exact cnt_head (H := [h]) hM (.inr ⟨h, rfl, hh⟩)
        omega
      rw [e]
      have := at_mark hA hd hlt
      simpa using this
  · have hd' : mrkB d = false := by simpa using hd
    rw [if_neg hd]
    have e : safeI [d] (cntI l) = [d] := by simp [safeI, hd']
    rw [e]
    exact at_head hA hd'
/-- how many marks are kept behind a value -/
theorem cnt_ins {l : List Int} {d : Int} (hd : mrkB d = true) : cntI (insI l d) = cntI l + 1 := by
  unfold cntI insI
  rw [List.filter_reverse, List.length_reverse]
  have : ∀ N : List Int, ((insR d N).filter mrkB).length = (N.filter mrkB).length + 1 := by
    intro N
    induction N with
    | nil => simp [insR, hd]
    | cons x t ih =>
      unfold insR
      split
      · rename_i h
        rw [List.filter_cons, List.filter_cons, h.1]
        simp only [if_true, List.length_cons, ih]
      · rw [List.filter_cons, hd]
        simp
  rw [this, List.filter_reverse, List.length_reverse]
theorem head_cnt (l : List Int) {d : Int} (hd : mrkB d = false) : cntI (headI l d).1 = 0 := by
  unfold headI
  split
  · split
    · split
      · rename_i e; simp [cntI, (join_facts e).1]
      · simp [cntI, hd]
    · simp [cntI, hd]
  · simp [cntI, hd]
theorem put_cnt (l : List Int) (d : Int) : cntI (putI l d).1 = if mrkB d = true then (if cntI l = 30 then 1 else cntI l + 1) else 0 := by
  unfold putI
  by_cases hd : mrkB d = true
  · rw [if_pos hd, if_pos hd]
    split
    · rw [cnt_ins hd, head_cnt l mrk847]
    · rw [cnt_ins hd]
  · rw [if_neg hd, if_neg hd]
    exact head_cnt l (by simpa using hd)
theorem safe_step (d : Int) (t : List Int) (l : List Int) : safeI (d :: t) (cntI l) = safeI [d] (cntI l) ++ safeI t (cntI (putI l d).1) := by
  rw [put_cnt]
  by_cases hd : mrkB d = true
  · by_cases h30 : cntI l = 30
    · simp [safeI, hd, h30]
    · simp [safeI, hd, h30]
  · simp [safeI, hd]
theorem at_run {s l out : List Int} (h : At s l out) (D : List Int) : At (s ++ safeI D (cntI l)) (runI l D).1 (out ++ (runI l D).2) := by
  induction D generalizing s l out with
  | nil => simpa [safeI, runI] using h
  | cons d t ih =>
    rw [safe_step, ← List.append_assoc]
    have := ih (at_put (d := d) h)
    simp only [runI]
    rw [← List.append_assoc]
    exact this
/-- what may be kept stays so -/
theorem kept_ins {l : List Int} {d : Int} (h : Kept l) (hd : mrkB d = true) (hr : cntI l < 30) : Kept (insI l d) := by
  obtain ⟨H, M, rfl, hM, hH⟩ := h.form
  refine ⟨?_, by rw [cnt_ins hd]; omega, ?_⟩
  · have hMr : ∀ m ∈ M.reverse, mrkB m = true := fun m hm => hM m (List.mem_reverse.1 hm)
    refine ⟨H, (insR d M.reverse).reverse, ?_, fun m hm => insR_marks hd hMr m (List.mem_reverse.1 hm), hH⟩
    unfold insI
    rcases hH with rfl | ⟨x, rfl, hx⟩
    · rfl
    · rw [List.reverse_append]
      have h2 : ∀ N : List Int, insR d (N ++ [x]) = insR d N ++ [x] := by
        intro N
        induction N with
        | nil => simp [insR, hx]
        | cons y t ih =>
          simp only [List.cons_append]
          unfold insR
          split
          · rw [ih]; rfl
          · rfl
      simp only [List.reverse_cons, List.reverse_nil, List.nil_append]
      rw [h2]
      simp
  · have := h.ord
    unfold sortedB insI at *
    rw [List.reverse_reverse]
    exact insR_adj this
theorem kept_head (l : List Int) {d : Int} (hd : mrkB d = false) : Kept (headI l d).1 := by
  unfold headI
  split
  · split
    · split
      · rename_i e; exact kept_one (join_facts e).1
      · exact kept_one hd
    · exact kept_one hd
  · exact kept_one hd
theorem kept_put {l : List Int} (h : Kept l) (d : Int) : Kept (putI l d).1 := by
  unfold putI
  by_cases hd : mrkB d = true
  · rw [if_pos hd]
    by_cases h30 : cntI l = 30
    · rw [if_pos h30]
      exact kept_ins (kept_head l mrk847) hd (by rw [head_cnt l mrk847]; omega)
    · rw [if_neg h30]
      exact kept_ins h hd (by have := h.few; omega)
  · rw [if_neg hd]
    exact kept_head l (by simpa using hd)
theorem kept_run {l : List Int} (h : Kept l) (D : List Int) : Kept (runI l D).1 := by
  induction D generalizing l with
  | nil => exact h
  | cons d t ih => exact ih (kept_put h d)
theorem kept_feed (l : List Int) (r : Int) : Kept (feedI l r).1 := by
  unfold feedI
  refine kept_run ?_ _
  split
  · rename_i h; exact sane_kept h
  · exact kept_nil
theorem head_told (l : List Int) (d : Int) : (headI l d).2.length ≤ l.length := by
  have := compose_le l
  unfold headI
  split
  · rename_i e
    rw [e] at this
    split
    · split
      · simp
      · exact this
    · exact this
  · exact this
theorem put_told {l : List Int} (h : Kept l) (d : Int) : (putI l d).2.length ≤ 31 := by
  have hl := kept_len h
  unfold putI
  split
  · split
    · have := head_told l 847; show (headI l 847).2.length ≤ 31; omega
    · simp
  · have := head_told l d; omega
theorem run_told {l : List Int} (h : Kept l) (D : List Int) : (runI l D).2.length ≤ 31 * D.length := by
  induction D generalizing l with
  | nil => simp [runI]
  | cons d t ih =>
    simp only [runI, List.length_append, List.length_cons]
    have h1 := put_told h d
    have h2 := ih (kept_put h d)
    omega
theorem feed_told (l : List Int) (r : Int) : (feedI l r).2.length ≤ 130 := by
  unfold feedI
  have hk : Kept (if saneB l = true then l else []) := by
    split
    · rename_i h; exact sane_kept h
    · exact kept_nil
  have h1 := run_told hk (fullI r)
  have h2 := (Dcp.full_len r).2
  omega
/-- fed one by one it is put one by one -/
theorem feeds_run {l : List Int} (h : Kept l) (a : List Int) : feedsI l a = runI l (madeI a) := by
  induction a generalizing l with
  | nil => rfl
  | cons r t ih =>
    have e : madeI (r :: t) = fullI r ++ madeI t := rfl
    have ef : feedI l r = runI l (fullI r) := by unfold feedI; rw [if_pos (kept_sane h)]
    rw [e, run_app, ← ef]
    simp only [feedsI]
    rw [ih (kept_feed l r)]
theorem kept_feeds (a : List Int) : Kept (feedsI [] a).1 := by rw [feeds_run kept_nil]; exact kept_run kept_nil _
/-- value by value it is the same form -/
theorem all_form (l : List Int) : allI l = nfkcI l := by
  have h := at_end (at_run at_nil (madeI l))
  simp only [List.nil_append, show cntI [] = 0 from rfl] at h
  unfold allI endI
  rw [if_pos (kept_sane (kept_feeds l)), feeds_run kept_nil]
  exact h.symm
theorem feeds_app (l a b : List Int) : feedsI l (a ++ b) = ((feedsI (feedsI l a).1 b).1, (feedsI l a).2 ++ (feedsI (feedsI l a).1 b).2) := by
  induction a generalizing l with
  | nil => simp [feedsI]
  | cons r t ih => simp only [List.cons_append, feedsI]; rw [ih]; simp
/-- what was told is told -/
theorem told_begins (a b : List Int) : (feedsI [] a).2 <+: nfkcI (a ++ b) := by
  rw [← all_form]
  unfold allI
  rw [feeds_app]
  simp only [List.append_assoc]
  exact List.prefix_append _ _
/-- what is told and what is kept are no more than what was kept and what was put -/
theorem head_sum (l : List Int) (d : Int) : (headI l d).1.length + (headI l d).2.length ≤ l.length + 1 := by
  have := compose_le l
  unfold headI
  split
  · rename_i e
    rw [e] at this
    simp only [List.length_cons, List.length_nil] at this
    split
    · split <;> simp <;> omega
    · simp; omega
  · simp; omega
theorem put_sum (l : List Int) (d : Int) : (putI l d).1.length + (putI l d).2.length ≤ l.length + 2 := by
  unfold putI
  split
  · split
    · have := head_sum l 847
      simp only [insI, List.length_reverse, insR_len]
      omega
    · simp [insI, insR_len]
  · have := head_sum l d
    omega
theorem run_sum (l D : List Int) : (runI l D).1.length + (runI l D).2.length ≤ l.length + 2 * D.length := by
  induction D generalizing l with
  | nil => simp [runI]
  | cons d t ih =>
    simp only [runI, List.length_append, List.length_cons]
    have h1 := put_sum l d
    have h2 := ih (putI l d).1
    omega
theorem made_len (l : List Int) : (madeI l).length ≤ 4 * l.length := by
  induction l with
  | nil => simp [madeI]
  | cons x t ih =>
    have e : madeI (x :: t) = fullI x ++ madeI t := rfl
    have := (Dcp.full_len x).2
    rw [e, List.length_append, List.length_cons]
    omega
end Go.Proofs.YtiidjkhkcckmkaaGreatDoor.Nor

/- Layer 10, plain mathematics: values without their case, and without what is dropped, in the form. -/
namespace Go.Proofs.YtiidjkhkcckmkaaGreatDoor.Fol
set_option linter.unusedSimpArgs false
set_option linter.unusedVariables false
open Prp (drpB)
open Nor Nfk
def leftI (l : List Int) : List Int := (Cas.allI l).filter fun r => !drpB r
theorem left_app (a b : List Int) : leftI (a ++ b) = leftI a ++ leftI b := by unfold leftI; rw [Cas.all_append, List.filter_append]
theorem left_cons (r : Int) (t : List Int) : leftI (r :: t) = leftI [r] ++ leftI t := left_app [r] t
theorem left_len (r : Int) : (leftI [r]).length ≤ 3 := by
  have h1 := (Cas.all_len [r]).2
  have h2 := List.length_filter_le (fun r => !drpB r) (Cas.allI [r])
  simp only [List.length_cons, List.length_nil] at h1
  unfold leftI
  omega
def feedI (l : List Int) (r : Int) : List Int × List Int := feedsI (if saneB l = true then l else []) (leftI [r])
theorem kept_of (l : List Int) : Kept (if saneB l = true then l else []) := by
  split
  · rename_i h; exact sane_kept h
  · exact kept_nil
theorem feed_kept (l : List Int) (r : Int) : Kept (feedI l r).1 := by
  unfold feedI
  rw [feeds_run (kept_of l)]
  exact kept_run (kept_of l) _
theorem feed_told (l : List Int) (r : Int) : (feedI l r).2.length ≤ 130 := by
  unfold feedI
  rw [feeds_run (kept_of l)]
  have h1 := run_sum (if saneB l = true then l else []) (madeI (leftI [r]))
  have h2 := kept_len (kept_of l)
  have h3 := made_len (leftI [r])
  have h4 := left_len r
  omega
/-- values fed, one behind the other -/
def fedsI : List Int → List Int → List Int × List Int
  | l, [] => (l, [])
  | l, r :: t => ((fedsI (feedI l r).1 t).1, (feedI l r).2 ++ (fedsI (feedI l r).1 t).2)
def allI (l : List Int) : List Int := (fedsI [] l).2 ++ endI (fedsI [] l).1
theorem feds_left {l : List Int} (h : Kept l) (a : List Int) : fedsI l a = feedsI l (leftI a) := by
  induction a generalizing l with
  | nil => rfl
  | cons r t ih =>
    have ef : feedI l r = feedsI l (leftI [r]) := by unfold feedI; rw [if_pos (kept_sane h)]
    rw [left_cons, feeds_app, ← ef]
    simp only [fedsI]
    rw [ih (feed_kept l r)]
/-- value by value it is the form of what is left -/
theorem all_form (l : List Int) : allI l = nfkcI (leftI l) := by
  unfold allI
  rw [feds_left kept_nil, ← Nor.all_form]
  rfl
end Go.Proofs.YtiidjkhkcckmkaaGreatDoor.Fol

/- Layer 11, plain mathematics: where clusters end. -/
namespace Go.Proofs.YtiidjkhkcckmkaaGreatDoor.Clu
set_option linter.unusedSimpArgs false
set_option linter.unusedVariables false
open Prp (gcbI)
/-- what is known of the values so far -/
structure CS where
  on : Bool
  kind : Int
  pict : Bool
  odd : Bool
deriving DecidableEq
def zero : CS := ⟨false, 0, false, false⟩
def saneB (s : CS) : Bool :=
  if s.on = false then decide (s = zero)
  else decide (0 ≤ s.kind) && decide (s.kind ≤ 14) && (!s.pict || decide (s.kind = 14) || decide (s.kind = 4) || decide (s.kind = 5)) && (s.pict || !decide (s.kind = 14)) && (!s.odd || decide (s.kind = 6))
/-- do two kinds stand together, whatever else? -/
def staysB (a b : Int) : Bool :=
  decide (a = 9 ∧ (b = 9 ∨ b = 10 ∨ b = 12 ∨ b = 13)) || decide ((a = 10 ∨ a = 12) ∧ (b = 10 ∨ b = 11)) || decide ((a = 11 ∨ a = 13) ∧ b = 11) || decide (b = 4 ∨ b = 5 ∨ b = 8 ∨ a = 7)
/-- does what came end ahead of a value of kind k? -/
def endsK (s : CS) (k : Int) : Bool :=
  if saneB s = false ∨ s.on = false then false
  else if s.kind = 1 ∧ k = 2 then false
  else if (1 ≤ s.kind ∧ s.kind ≤ 3) ∨ (1 ≤ k ∧ k ≤ 3) then true
  else !(staysB s.kind k || (decide (s.kind = 5) && s.pict && decide (k = 14)) || (decide (s.kind = 6) && s.odd && decide (k = 6)))
def endsI (s : CS) (r : Int) : Bool := endsK s (gcbI r)
def nextK (s0 : CS) (k : Int) : CS :=
  let s := if saneB s0 = true then s0 else zero
  ⟨true, k, decide (k = 14) || (decide (k = 4 ∨ k = 5) && s.pict && !decide (s.kind = 5)), decide (k = 6) && !s.odd⟩
def nextI (s : CS) (r : Int) : CS := nextK s (gcbI r)
def cutsI : CS → List Int → List Bool
  | _, [] => []
  | s, r :: t => endsI s r :: cutsI (nextI s r) t
/-- what is known behind some values -/
def goI (s : CS) (l : List Int) : CS := l.foldl nextI s
theorem next_sane (s : CS) (r : Int) : saneB (nextI s r) = true ∧ (nextI s r).on = true ∧ (nextI s r).kind = gcbI r := by
  have hb := Prp.gcb_bounds r
  refine ⟨?_, rfl, rfl⟩
  unfold nextI nextK saneB
  obtain ⟨k, hk⟩ : ∃ k, gcbI r = k := ⟨_, rfl⟩
  rw [hk] at hb ⊢
  generalize (if saneB s = true then s else zero) = z
  simp only [Bool.true_eq_false, if_false]
  by_cases h14 : k = 14
  · subst h14; simp
  · by_cases h4 : k = 4 ∨ k = 5
    · rcases h4 with rfl | rfl <;> simp
    · by_cases h6 : k = 6
      · subst h6; simp
      · simp [h14, h4, h6]; omega
theorem zero_ends (r : Int) : endsI zero r = false := by unfold endsI endsK; rw [if_pos (.inr rfl)]
theorem cuts_len (s : CS) (l : List Int) : (cutsI s l).length = l.length := by
  induction l generalizing s with
  | nil => rfl
  | cons r t ih => simp [cutsI, ih]
theorem cuts_app (s : CS) (a b : List Int) : cutsI s (a ++ b) = cutsI s a ++ cutsI (goI s a) b := by
  induction a generalizing s with
  | nil => rfl
  | cons r t ih => simp only [List.cons_append, cutsI]; rw [ih]; rfl
end Go.Proofs.YtiidjkhkcckmkaaGreatDoor.Clu

/- Layer 12, plain mathematics: values cut into clusters, none of which is too long. -/
namespace Go.Proofs.YtiidjkhkcckmkaaGreatDoor.Sgm
set_option linter.unusedSimpArgs false
set_option linter.unusedVariables false
open Prp (gcbI)
open Clu (CS zero endsI nextI cutsI goI)
def saneB (c : List Int) (s : CS) : Bool := decide (c.length ≤ 32) && Clu.saneB s && (s.on == !c.isEmpty)
/-- what is kept (c, s), and what is told -/
def stepI (c : List Int) (s : CS) (r : Int) : (List Int × CS) × List Int :=
  if c ≠ [] ∧ (endsI s r = true ∨ c.length = 32) then (([r], nextI s r), c) else ((c ++ [r], nextI s r), [])
def feedI (c : List Int) (s : CS) (r : Int) : (List Int × CS) × List Int := if saneB c s = true then stepI c s r else stepI [] zero r
def endI (c : List Int) (s : CS) : List Int := if saneB c s = true then c else []
/-- the clusters, where c is open -/
def segs : List Int → CS → List Int → List (List Int)
  | c, _, [] => if c = [] then [] else [c]
  | c, s, r :: t => if c ≠ [] ∧ (endsI s r = true ∨ c.length = 32) then c :: segs [r] (nextI s r) t else segs (c ++ [r]) (nextI s r) t
def allI (l : List Int) : List (List Int) := segs [] zero l
theorem segs_cons (c : List Int) (s : CS) (r : Int) (t : List Int) : segs c s (r :: t) = if c ≠ [] ∧ (endsI s r = true ∨ c.length = 32) then c :: segs [r] (nextI s r) t else segs (c ++ [r]) (nextI s r) t := by rw [segs]
theorem step_sane {c : List Int} {s : CS} {r : Int} (h : c.length ≤ 32) (hs : c = [] → endsI s r = false) : saneB (stepI c s r).1.1 (stepI c s r).1.2 = true := by
  obtain ⟨a, b, _⟩ := Clu.next_sane s r
  unfold stepI
  split
  · rename_i hc
    unfold saneB
    simp only [a, b]
    simp
  · rename_i hc
    have hl : (c ++ [r]).length ≤ 32 := by
      by_cases h0 : c = []
      · subst h0; simp
      · have : ¬ c.length = 32 := fun h32 => hc ⟨h0, .inr h32⟩
        simp; omega
    unfold saneB
    simp only [a, b, decide_eq_true hl]
    simp
theorem feed_sane (c : List Int) (s : CS) (r : Int) : saneB (feedI c s r).1.1 (feedI c s r).1.2 = true := by
  unfold feedI
  split
  · rename_i h
    unfold saneB at h
    simp only [Bool.and_eq_true, decide_eq_true_eq, beq_iff_eq] at h
    refine step_sane h.1.1 fun h0 => ?_
    subst h0
    have hon : s.on = false := by simpa using h.2
    unfold endsI Clu.endsK
    rw [if_pos (.inr hon)]
  · exact step_sane (by simp) fun _ => Clu.zero_ends r
/-- none is empty or too long; one behind the other they are the values -/
theorem segs_join (c : List Int) (s : CS) (l : List Int) (hc : c.length ≤ 32) : (segs c s l).flatten = c ++ l ∧ ∀ x ∈ segs c s l, 1 ≤ x.length ∧ x.length ≤ 32 := by
  induction l generalizing c s with
  | nil =>
    unfold segs
    split
    · rename_i h; subst h; simp
    · rename_i h
      have : 1 ≤ c.length := by cases c with
        | nil => exact absurd rfl h
        | cons a t => simp
      refine ⟨by simp, fun x hx => ?_⟩
      obtain rfl : x = c := by simpa using hx
      exact ⟨this, hc⟩
  | cons r t ih =>
    unfold segs
    split
    · rename_i h
      have : 1 ≤ c.length := by cases c with
        | nil => exact absurd rfl h.1
        | cons a t => simp
      obtain ⟨h1, h2⟩ := ih [r] (nextI s r) (by simp)
      refine ⟨by rw [List.flatten_cons, h1]; simp, fun x hx => ?_⟩
      rcases List.mem_cons.1 hx with rfl | hx
      · exact ⟨this, hc⟩
      · exact h2 x hx
    · rename_i h
      have hl : (c ++ [r]).length ≤ 32 := by
        by_cases h0 : c = []
        · subst h0; simp
        · have : ¬ c.length = 32 := fun h32 => h ⟨h0, .inr h32⟩
          simp; omega
      obtain ⟨h1, h2⟩ := ih (c ++ [r]) (nextI s r) hl
      exact ⟨by rw [h1]; simp, h2⟩
theorem all_join (l : List Int) : (allI l).flatten = l ∧ ∀ x ∈ allI l, 1 ≤ x.length ∧ x.length ≤ 32 := segs_join [] zero l (by simp)
/-- what is told of a list, cluster by cluster: those that are told, and what is open -/
def runI : List Int → CS → List Int → List (List Int) × (List Int × CS)
  | c, s, [] => ([], (c, s))
  | c, s, r :: t => if c ≠ [] ∧ (endsI s r = true ∨ c.length = 32) then (c :: (runI [r] (nextI s r) t).1, (runI [r] (nextI s r) t).2) else runI (c ++ [r]) (nextI s r) t
end Go.Proofs.YtiidjkhkcckmkaaGreatDoor.Sgm

/- Layer 13, plain mathematics: clusters as framed texts. -/
namespace Go.Proofs.YtiidjkhkcckmkaaGreatDoor.Frm
set_option linter.unusedSimpArgs false
set_option linter.unusedVariables false
open Var (putN takeL)
def big : Nat := 268435455
/-- the frame of a text -/
def frameOf (t : List UInt8) : List UInt8 := putN t.length ++ t
def putF (c : List Int) : List UInt8 := if c = [] ∨ big < (Dec.textL c).length then [] else frameOf (Dec.textL c)
def takeF (b : List UInt8) : List UInt8 × Int × Int :=
  if (takeL b).2.2 ≠ 0 then ([], 0, (takeL b).2.2)
  else if (b.length : Int) - (takeL b).2.1 < (takeL b).1 then ([], 0, 1)
  else ((b.drop (takeL b).2.1.toNat).take (takeL b).1.toNat, (takeL b).2.1 + (takeL b).1, 0)
/-- all frames with which some bytes begin: f: no fewer than the bytes -/
def allU : Nat → List UInt8 → List (List UInt8) × Int × Int
  | 0, _ => ([], 0, 0)
  | f + 1, b =>
    if b = [] then ([], 0, 0)
    else if (takeF b).2.2 ≠ 0 then ([], 0, (takeF b).2.2)
    else ((takeF b).1 :: (allU f (b.drop (takeF b).2.1.toNat)).1, (takeF b).2.1 + (allU f (b.drop (takeF b).2.1.toNat)).2.1, (allU f (b.drop (takeF b).2.1.toNat)).2.2)
def allF (b : List UInt8) : List (List UInt8) × Int × Int := allU b.length b
theorem putF_some {c : List Int} (h : c ≠ []) (hl : c.length ≤ 1000000) : putF c = frameOf (Dec.textL c) ∧ (Dec.textL c).length ≤ big := by
  have := Dec.textL_len c
  have hb : (Dec.textL c).length ≤ big := by unfold big; omega
  exact ⟨by unfold putF; rw [if_neg]; rintro (h1 | h1); exact h h1; omega, hb⟩
end Go.Proofs.YtiidjkhkcckmkaaGreatDoor.Frm

