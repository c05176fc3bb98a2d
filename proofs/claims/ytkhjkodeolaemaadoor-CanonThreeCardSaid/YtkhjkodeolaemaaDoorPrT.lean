/- Layer 3: a table of spans in a block. -/
import Derived.Test.YtkhjkodeolaemaaDoorG0
import Derived.Test.YtkhjkodeolaemaaDoorPrM
import Derived.Test.YtkhjkodeolaemaaDoorK6
namespace Go.Proofs.YtkhjkodeolaemaaDoor
set_option linter.unusedSimpArgs false
set_option linter.unusedVariables false
open Go.RowKit Go.Lib

/-- a table that lies in a block -/
def RowsAt (w : World) (b : Nat) (T : List Prp.Row) : Prop :=
  b < w.heap.size ∧ ∀ k (h : k < T.length), w.cell? ⟨b, k * 3, none⟩ = some (.int .i64 T[k].1) ∧ w.cell? ⟨b, k * 3 + 1, none⟩ = some (.int .i64 T[k].2.1) ∧ w.cell? ⟨b, k * 3 + 2, none⟩ = some (.int .i64 T[k].2.2)

theorem rows_below {w w1 : World} {b : Nat} {T : List Prp.Row} (h : RowsAt w b T) (hb : Below w.heap.size w w1) : RowsAt w1 b T :=
  ⟨Nat.lt_of_lt_of_le h.1 hb.size, fun k hk => by rw [hb.cell h.1, hb.cell h.1, hb.cell h.1]; exact h.2 k hk⟩

/-- the three cells of one row -/
theorem rows_cells {w : World} {b : Nat} {T : List Prp.Row} (h : RowsAt w b T) (k : Nat) (hk : k < T.length) : ∃ A B C : Int, T[k] = (A, B, C) ∧ w.cell? ⟨b, k * 3, none⟩ = some (.int .i64 A) ∧ w.cell? ⟨b, k * 3 + 1, none⟩ = some (.int .i64 B) ∧ w.cell? ⟨b, k * 3 + 2, none⟩ = some (.int .i64 C) :=
  ⟨_, _, _, rfl, h.2 k hk⟩

def flat (T : List Prp.Row) : List Value := T.flatMap fun s => [.int .i64 s.1, .int .i64 s.2.1, .int .i64 s.2.2]

theorem flat_at (T : List Prp.Row) (k : Nat) (hk : k < T.length) : (flat T)[k * 3]? = some (.int .i64 T[k].1) ∧ (flat T)[k * 3 + 1]? = some (.int .i64 T[k].2.1) ∧ (flat T)[k * 3 + 2]? = some (.int .i64 T[k].2.2) := by
  induction T generalizing k with
  | nil => simp at hk
  | cons s t ih =>
    cases k with
    | zero => exact ⟨rfl, rfl, rfl⟩
    | succ k =>
      have h := ih k (by simpa using hk)
      have e : flat (s :: t) = .int .i64 s.1 :: .int .i64 s.2.1 :: .int .i64 s.2.2 :: flat t := rfl
      rw [e]
      rw [show (k + 1) * 3 = k * 3 + 3 by omega]
      exact ⟨h.1, h.2.1, h.2.2⟩

theorem rows_new (w : World) (cs : Array Value) (t : TypeId) (T : List Prp.Row) (h : cs.toList = flat T) : RowsAt (w.alloc (.cells cs t)) w.heap.size T := by
  refine ⟨by simp, fun k hk => ?_⟩
  obtain ⟨h0, h1, h2⟩ := flat_at T k hk
  rw [← h] at h0 h1 h2
  simp only [Array.getElem?_toList] at h0 h1 h2
  refine ⟨?_, ?_, ?_⟩
  · simpa using h0
  · simpa using h1
  · simpa using h2

end Go.Proofs.YtkhjkodeolaemaaDoor
