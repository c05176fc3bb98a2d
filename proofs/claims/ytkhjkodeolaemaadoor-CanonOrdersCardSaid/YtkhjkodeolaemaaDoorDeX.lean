/- Layer 4, plain mathematics: the code's own text of rows of one length, read number by number. -/
import Derived.Test.YtkhjkodeolaemaaDoorDeM
import Derived.Lib.Bytealg
namespace Go.Proofs.YtkhjkodeolaemaaDoor.Dcp
set_option linter.unusedSimpArgs false
set_option linter.unusedVariables false

/-- the hex digits, as text -/
def hexL : List UInt8 := [48, 49, 50, 51, 52, 53, 54, 55, 56, 57, 65, 66, 67, 68, 69, 70]

def hexD (c : UInt8) : Int := Lib.indexByte hexL c

theorem hexD_all : ∀ n : Fin 256, -1 ≤ hexD (UInt8.ofNat n.1) ∧ hexD (UInt8.ofNat n.1) ≤ 15 := by decide +kernel
theorem hexD_bd (c : UInt8) : -1 ≤ hexD c ∧ hexD c ≤ 15 := by
  have h := hexD_all ⟨c.toNat, c.toNat_lt⟩
  simpa using h

/-- the number that some digits are -/
def numF (l : List UInt8) : Int := l.foldl (fun n c => n * 16 + hexD c) 0

theorem numF_snoc (l : List UInt8) (c : UInt8) : numF (l ++ [c]) = numF l * 16 + hexD c := by simp [numF]

theorem numF_bd (l : List UInt8) (h : l.length ≤ 4) : -65536 < numF l ∧ numF l < 65536 := by
  match l, h with
  | [], _ => decide
  | [a], _ => have := hexD_bd a; simp only [numF, List.foldl]; omega
  | [a, b], _ => have := hexD_bd a; have := hexD_bd b; simp only [numF, List.foldl]; omega
  | [a, b, c], _ => have := hexD_bd a; have := hexD_bd b; have := hexD_bd c; simp only [numF, List.foldl]; omega
  | [a, b, c, d], _ => have := hexD_bd a; have := hexD_bd b; have := hexD_bd c; have := hexD_bd d; simp only [numF, List.foldl]; omega
  | _ :: _ :: _ :: _ :: _ :: _, h => simp at h

/-- what a row's value is made of: f places at most, from place k on -/
def madeF (l : List UInt8) : Nat → Nat → List Int
  | 0, _ => []
  | f + 1, k => if (l.drop ((1 + k) * 5)).headD 0 = 32 then [] else numF ((l.drop ((1 + k) * 5)).take 4) :: madeF l f (k + 1)

theorem madeF_len (l : List UInt8) (f k : Nat) : (madeF l f k).length ≤ f := by
  induction f generalizing k with
  | zero => exact Nat.le_refl _
  | succ f ih => unfold madeF; split <;> simp; exact ih _

def okRow (l : List UInt8) (s : Int × List Int) : Bool := decide (l.length = 25) && decide (numF (l.take 4) = s.1) && decide (madeF l 4 0 = s.2)

def okAll : List UInt8 → List (Int × List Int) → Bool
  | l, [] => l.isEmpty
  | l, s :: t => okRow (l.take 25) s && okAll (l.drop 25) t

theorem okAll_at {l : List UInt8} {t : List (Int × List Int)} (h : okAll l t = true) (k : Nat) (hk : k < t.length) : okRow ((l.drop (k * 25)).take 25) t[k] = true := by
  induction t generalizing l k with
  | nil => simp at hk
  | cons s t ih =>
    simp only [okAll, Bool.and_eq_true] at h
    cases k with
    | zero => simpa using h.1
    | succ k =>
      have := ih h.2 k (by simpa using hk)
      rw [List.drop_drop] at this
      rw [show (k + 1) * 25 = 25 + k * 25 by omega]
      exact this

theorem okRow_parts {l : List UInt8} {s : Int × List Int} (h : okRow l s = true) : l.length = 25 ∧ numF (l.take 4) = s.1 ∧ madeF l 4 0 = s.2 := by
  simp only [okRow, Bool.and_eq_true, decide_eq_true_eq] at h
  exact ⟨h.1.1, h.1.2, h.2⟩

theorem up : Lk.upB T = true := by decide +kernel
theorem rows : T.length = 374 := by decide +kernel

end Go.Proofs.YtkhjkodeolaemaaDoor.Dcp
