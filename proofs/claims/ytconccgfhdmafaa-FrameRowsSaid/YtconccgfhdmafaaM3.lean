/- Layer 1, plain mathematics: what a form's bytes do when they are fed one by one; whole texts; what is told is scalar; how many values there are. -/
import Derived.Test.YtconccgfhdmafaaM2
import Derived.Lib.DecodeNEq
namespace Go.Proofs.Ytconccgfhdmafaa
set_option linter.unusedSimpArgs false
set_option linter.unusedVariables false
namespace Dec
open Go.Lib

theorem cat (x y : Array UInt8) : ((⟨x⟩ : ByteArray) ++ ⟨y⟩) = ⟨x ++ y⟩ := by
  apply ByteArray.ext
  simp

theorem get_at (x : Array UInt8) (i : Nat) : (⟨x⟩ : ByteArray).get! i = x.toList.getD i 0 := by
  show x[i]! = _
  rw [getElem!_def]
  cases h : x[i]? with
  | some v => simp [h]
  | none => simp [h]; rfl

/-- the first byte, the second .. of a list, 0 where there is none -/
def nb (l : List UInt8) (i : Nat) : Nat := (l.getD i 0).toNat

theorem nb_lt (l : List UInt8) (i : Nat) : nb l i < 256 := (l.getD i 0).toNat_lt

def begL (l : List UInt8) : Bool := decide (l.length ≠ 0) && !fullN l.length (nb l 0) (nb l 1) (nb l 2)

theorem begB_eq (l : List UInt8) : begB ⟨l.toArray⟩ = begL l := by
  unfold begB begL fullB
  simp only [get_at]
  rfl

def decL (l : List UInt8) : Nat × Nat := if l.length = 0 then (65533, 0) else decodeN l.length (nb l 0) (nb l 1) (nb l 2) (nb l 3)

theorem decodeGo_eq (l : List UInt8) : decodeGo ⟨l.toArray⟩ = decL l := by
  unfold decodeGo decL
  rw [Lib.decode_at]
  simp only [get_at]
  rfl

theorem eta (s : ByteArray) : s = ⟨s.data.toList.toArray⟩ := rfl

/-- feeding, of lists -/
def feedL1 (s : List UInt8) (c : UInt8) : List UInt8 × List Int :=
  if begL (s ++ [c]) then (s ++ [c], [])
  else if (decL (s ++ [c])).2 = s.length + 1 then ([], [((decL (s ++ [c])).1 : Int)])
  else if begL [c] then ([c], [65533])
  else ([], [65533, ((decL [c]).1 : Int)])

theorem feed1_eq (s : List UInt8) (c : UInt8) : feed1 ⟨s.toArray⟩ c = (⟨(feedL1 s c).1.toArray⟩, (feedL1 s c).2) := by
  unfold feed1 feedL1
  have e1 : ((⟨s.toArray⟩ : ByteArray) ++ ⟨#[c]⟩) = ⟨(s ++ [c]).toArray⟩ := by rw [cat]; simp
  have e2 : ((⟨#[]⟩ : ByteArray) ++ ⟨#[c]⟩) = ⟨[c].toArray⟩ := by rw [cat]; rfl
  have e3 : (⟨(s ++ [c]).toArray⟩ : ByteArray).size = s.length + 1 := by
    show (s ++ [c]).toArray.size = _
    simp
  rw [e1, e2, begB_eq, begB_eq, decodeGo_eq, decodeGo_eq, e3]
  repeat' split
  all_goals rfl

def saneL (s : List UInt8) : Bool := decide (s.length = 0) || begL s

theorem saneB_eq (s : List UInt8) : saneB ⟨s.toArray⟩ = saneL s := by
  unfold saneB saneL
  rw [begB_eq]
  rfl

def feedL (s : List UInt8) (c : UInt8) : List UInt8 × List Int := if saneL s then feedL1 s c else feedL1 [] c

theorem feed_eq (s : List UInt8) (c : UInt8) : feed ⟨s.toArray⟩ c = (⟨(feedL s c).1.toArray⟩, (feedL s c).2) := by
  unfold feed feedL
  rw [saneB_eq]
  split
  · exact feed1_eq s c
  · exact feed1_eq [] c

def runL (s : List UInt8) : List UInt8 → List UInt8 × List Int
  | [] => (s, [])
  | c :: r => ((runL (feedL s c).1 r).1, (feedL s c).2 ++ (runL (feedL s c).1 r).2)

theorem runL_append (s : List UInt8) (a b : List UInt8) : runL s (a ++ b) = ((runL (runL s a).1 b).1, (runL s a).2 ++ (runL (runL s a).1 b).2) := by
  induction a generalizing s with
  | nil => simp [runL]
  | cons c a ih =>
    rw [List.cons_append]
    simp only [runL]
    rw [ih]
    simp [List.append_assoc]

theorem run_eq (bs : List UInt8) : run ⟨#[]⟩ bs = (⟨(runL [] bs).1.toArray⟩, (runL [] bs).2) := by
  have key : ∀ n, ∀ bs : List UInt8, bs.length = n → run ⟨#[]⟩ bs = (⟨(runL [] bs).1.toArray⟩, (runL [] bs).2) := by
    intro n
    induction n with
    | zero =>
      intro bs h
      obtain rfl := List.eq_nil_of_length_eq_zero h
      rfl
    | succ n ih =>
      intro bs h
      rcases List.eq_nil_or_concat bs with rfl | ⟨b, c, rfl⟩
      · simp at h
      · rw [List.concat_eq_append] at h ⊢
        rw [run_snoc, ih b (by simpa using h), feed_eq, runL_append]
        simp [runL]
  exact key _ bs rfl

def endLL (s : List UInt8) : List Int := if begL s then [65533] else []

def allLL (bs : List UInt8) : List Int := (runL [] bs).2 ++ endLL (runL [] bs).1

theorem allL_eq (bs : List UInt8) : allL bs = allLL bs := by
  unfold allL allLL endL endLL
  rw [run_eq, begB_eq]

/-! ### forms -/

theorem enc_byte (x : Int) (h0 : 0 ≤ x) (h1 : x < 256) : ((x.toNat.toUInt8).toNat : Int) = x := by
  have h2 : x.toNat < 256 := by omega
  have h3 : (x.toNat.toUInt8).toNat = x.toNat := by
    show (UInt8.ofNat x.toNat).toNat = x.toNat
    rw [UInt8.toNat_ofNat']
    omega
  omega

theorem enc_nat (x : Int) (h0 : 0 ≤ x) (h1 : x < 256) : (x.toNat.toUInt8).toNat = x.toNat := by
  have := enc_byte x h0 h1
  omega

end Dec
end Go.Proofs.Ytconccgfhdmafaa
