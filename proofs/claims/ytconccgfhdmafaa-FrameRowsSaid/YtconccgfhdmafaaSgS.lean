/- Layer 12: rows of slices; what is asked of the code's functions. -/
import Derived.Test.YtconccgfhdmafaaSeM
import Derived.Test.YtconccgfhdmafaaSgB
import Derived.Test.YtconccgfhdmafaaG3
import Derived.Test.YtconccgfhdmafaaBasP
namespace Go.Proofs.Ytconccgfhdmafaa
set_option linter.unusedSimpArgs false
set_option linter.unusedVariables false
open Go.RowKit Go.Lib

/-- a slice of slices of whole numbers -/
def RR (w : World) (v : Value) (ls : List (List Int)) : Prop :=
  (v = .slice none 0 0 ∧ ls = []) ∨ ∃ a cap, v = .slice (some a) ls.length cap ∧ ls.length ≤ cap ∧ (0 < ls.length → ∃ b off, a = ⟨b, off, none⟩ ∧ b < w.heap.size ∧ ∀ i (h : i < ls.length), ∃ u, w.cell? ⟨b, off + i, none⟩ = some u ∧ RI w u ls[i])

theorem rr_at {w : World} {p : Option Addr} {n cap : Nat} {ls : List (List Int)} (h : RR w (.slice p n cap) ls) (hl : 0 < ls.length) : ∃ b off, p = some ⟨b, off, none⟩ ∧ b < w.heap.size ∧ ∀ i (h : i < ls.length), ∃ u, w.cell? ⟨b, off + i, none⟩ = some u ∧ RI w u ls[i] := by
  rcases h with ⟨_, rfl⟩ | ⟨a, cap', he, _, h⟩
  · simp at hl
  · simp at he
    obtain ⟨rfl, _, _⟩ := he
    obtain ⟨b, off, rfl, h1, h2⟩ := h hl
    exact ⟨b, off, rfl, h1, h2⟩
theorem rr_form {w : World} {v : Value} {ls : List (List Int)} (h : RR w v ls) : ∃ p cap, v = .slice p ls.length cap := by
  rcases h with ⟨rfl, rfl⟩ | ⟨a, cap, rfl, _⟩
  · exact ⟨none, 0, rfl⟩
  · exact ⟨_, _, rfl⟩
theorem rr_below {w w1 : World} {v : Value} {ls : List (List Int)} (h : RR w v ls) (hb : Below w.heap.size w w1) : RR w1 v ls := by
  rcases h with h | ⟨a, c, rfl, hcap, h⟩
  · exact .inl h
  · refine .inr ⟨a, c, rfl, hcap, fun hl => ?_⟩
    obtain ⟨b, off, rfl, h1, h2⟩ := h hl
    refine ⟨b, off, rfl, Nat.lt_of_lt_of_le h1 hb.size, fun i hi => ?_⟩
    obtain ⟨u, h3, h4⟩ := h2 i hi
    exact ⟨u, (hb.cell (p := ⟨b, off + i, none⟩) h1).trans h3, ri_below h4 hb⟩

def ToldR (ls : List (List Int)) (w : World) (e : Ending) (w' : World) : Prop := ∃ v, e = .returned v ∧ RR w' v ls ∧ Below w.heap.size w w'
def FedS (q : (List Int × Clu.CS) × List Int) (w : World) (e : Ending) (w' : World) : Prop := ∃ va vb, e = .returned (.tuple #[sgV va q.1.2, vb]) ∧ RI w' va q.1.1 ∧ RI w' vb q.2 ∧ Below w.heap.size w w'

/- what Sane, Feed, End and All of the code tell -/
def AllC12 : Prop := ∀ (v : Value) (l : List Int) (w : World), l.length ≤ 100000 → RI w v l → Calls Try.prog 19 #[v] w (ToldR (Sgm.allI l) w)
theorem all_of12 (h : AllC12) {v : Value} {l : List Int} {m : List (List Int)} {w : World} (e : Sgm.allI l = m) (hl : l.length ≤ 100000) (hv : RI w v l) : Calls Try.prog 19 #[v] w (ToldR m w) := e ▸ h v l w hl hv

end Go.Proofs.Ytconccgfhdmafaa
