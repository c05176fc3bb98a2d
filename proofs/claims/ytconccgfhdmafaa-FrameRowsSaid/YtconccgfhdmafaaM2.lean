/- Layer 1 again, as plain mathematics: feeding one byte; what the end tells; whole texts. -/
import Derived.Test.YtconccgfhdmafaaM1
import Derived.Lib.RuneBytes
namespace Go.Proofs.Ytconccgfhdmafaa
set_option linter.unusedSimpArgs false
set_option linter.unusedVariables false
namespace Dec
open Go.Lib

/-- one byte more, behind a beginning or nothing -/
def feed1 (s : ByteArray) (c : UInt8) : ByteArray × List Int :=
  if begB (s ++ ⟨#[c]⟩) then (s ++ ⟨#[c]⟩, [])
  else if (decodeGo (s ++ ⟨#[c]⟩)).2 = (s ++ ⟨#[c]⟩).size then (⟨#[]⟩, [((decodeGo (s ++ ⟨#[c]⟩)).1 : Int)])
  else if begB (⟨#[]⟩ ++ ⟨#[c]⟩) then (⟨#[]⟩ ++ ⟨#[c]⟩, [65533])
  else (⟨#[]⟩, [65533, ((decodeGo (⟨#[]⟩ ++ ⟨#[c]⟩)).1 : Int)])

def feed (s : ByteArray) (c : UInt8) : ByteArray × List Int := if saneB s then feed1 s c else feed1 ⟨#[]⟩ c

theorem size_one (c : UInt8) : ((⟨#[]⟩ : ByteArray) ++ ⟨#[c]⟩).size = 1 := by rw [ByteArray.size_append]; rfl

theorem decodeGo_size_pos (s : ByteArray) (h : s.size ≠ 0) : 1 ≤ (decodeGo s).2 := by
  unfold decodeGo
  rw [if_neg h]
  unfold Utf8.decode
  dsimp only
  repeat' split
  all_goals simp

theorem decodeGo_one (c : UInt8) : (decodeGo (⟨#[]⟩ ++ ⟨#[c]⟩)).2 = 1 := by
  unfold decodeGo
  rw [if_neg (by rw [size_one]; decide), Lib.decode_at, size_one]
  unfold decodeN
  repeat' split
  all_goals first | rfl | omega

theorem feed1_zero (c : UInt8) : feed1 ⟨#[]⟩ c = if begB (⟨#[]⟩ ++ ⟨#[c]⟩) then (⟨#[]⟩ ++ ⟨#[c]⟩, []) else (⟨#[]⟩, [((decodeGo (⟨#[]⟩ ++ ⟨#[c]⟩)).1 : Int)]) := by
  unfold feed1
  rw [decodeGo_one, size_one]
  rw [if_pos (rfl : (1 : Nat) = 1)]

theorem decodeGo_range (b : ByteArray) : ((decodeGo b).1 : Int) ≤ 1114111 := by
  unfold decodeGo
  split
  · simp
  · rw [Lib.decode_at]
    have h0 := (b.get! 0).toNat_lt
    unfold decodeN
    repeat' split
    all_goals first | (simp; done) | (simp; omega) | (simp_all; omega)

theorem saneB_zero : saneB ⟨#[]⟩ = true := rfl

/-- what is left behind some bytes, and what they told -/
def run (st : ByteArray) (bs : List UInt8) : ByteArray × List Int := bs.foldl (fun p c => ((feed p.1 c).1, p.2 ++ (feed p.1 c).2)) (st, [])

theorem run_nil (st : ByteArray) : run st [] = (st, []) := rfl

theorem run_snoc (st : ByteArray) (bs : List UInt8) (c : UInt8) : run st (bs ++ [c]) = ((feed (run st bs).1 c).1, (run st bs).2 ++ (feed (run st bs).1 c).2) := by
  unfold run
  rw [List.foldl_append]
  rfl

def endL (s : ByteArray) : List Int := if begB s then [65533] else []

def allL (bs : List UInt8) : List Int := (run ⟨#[]⟩ bs).2 ++ endL (run ⟨#[]⟩ bs).1

theorem feed1_len (s : ByteArray) (c : UInt8) : (feed1 s c).2.length ≤ 2 := by
  unfold feed1
  repeat' split
  all_goals simp

theorem feed_len (s : ByteArray) (c : UInt8) : (feed s c).2.length ≤ 2 := by
  unfold feed
  split
  all_goals exact feed1_len _ _

theorem run_snoc_len (st : ByteArray) (bs : List UInt8) (c : UInt8) (n : Nat) (h : (run st bs).2.length ≤ n) : (run st (bs ++ [c])).2.length ≤ n + 2 := by
  rw [run_snoc]
  have := feed_len (run st bs).1 c
  simp
  omega

theorem run_take_len (st : ByteArray) (bs : List UInt8) (k : Nat) : (run st (bs.take k)).2.length ≤ 2 * k := by
  induction k with
  | zero => simp [run_nil]
  | succ k ih =>
    rcases Nat.lt_or_ge k bs.length with h | h
    · rw [List.take_succ_eq_append_getElem h]
      exact run_snoc_len _ _ _ _ ih
    · rw [List.take_of_length_le (by omega)]
      rw [List.take_of_length_le h] at ih
      omega

/-- values' text -/
def textL (l : List Int) : List UInt8 := l.flatMap fun r => Lib.encodeRune (fix r)

theorem textL_snoc (l : List Int) (r : Int) : textL (l ++ [r]) = textL l ++ Lib.encodeRune (fix r) := by simp [textL]

theorem encodeRune_len (r : Int) : (Lib.encodeRune r).length ≤ 4 := by
  unfold Lib.encodeRune Lib.encodeRuneZ
  repeat' split
  all_goals simp

theorem textL_len (l : List Int) : (textL l).length ≤ 4 * l.length := by
  induction l with
  | nil => simp [textL]
  | cons r l ih =>
    have h := encodeRune_len (fix r)
    have e : textL (r :: l) = Lib.encodeRune (fix r) ++ textL l := by simp [textL]
    rw [e]
    simp
    omega

theorem fix_range (r : Int) : -2147483648 ≤ fix r ∧ fix r ≤ 2147483647 := by
  unfold fix
  split
  · rename_i h
    unfold goodB at h
    grind
  · omega

end Dec
end Go.Proofs.Ytconccgfhdmafaa
