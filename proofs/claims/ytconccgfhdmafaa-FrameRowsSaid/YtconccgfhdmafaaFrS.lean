/- Layer 13: rows of texts; what is asked of the code's functions. -/
import Derived.Test.YtconccgfhdmafaaFrM
import Derived.Test.YtconccgfhdmafaaG1
import Derived.Test.YtconccgfhdmafaaBasP
namespace Go.Proofs.Ytconccgfhdmafaa
set_option linter.unusedSimpArgs false
set_option linter.unusedVariables false
open Go.RowKit Go.Lib

/-- a text as a value -/
abbrev strV (t : List UInt8) : Value := .string ⟨t.toArray⟩

/-- a slice of texts -/
def SR (w : World) (v : Value) (ts : List (List UInt8)) : Prop :=
  (v = .slice none 0 0 ∧ ts = []) ∨ ∃ a cap, v = .slice (some a) ts.length cap ∧ ts.length ≤ cap ∧ (0 < ts.length → ∃ b off, a = ⟨b, off, none⟩ ∧ b < w.heap.size ∧ ∀ i (h : i < ts.length), w.cell? ⟨b, off + i, none⟩ = some (strV ts[i]))

theorem sr_at {w : World} {p : Option Addr} {n cap : Nat} {ts : List (List UInt8)} (h : SR w (.slice p n cap) ts) (hl : 0 < ts.length) : ∃ b off, p = some ⟨b, off, none⟩ ∧ b < w.heap.size ∧ ∀ i (h : i < ts.length), w.cell? ⟨b, off + i, none⟩ = some (strV ts[i]) := by
  rcases h with ⟨_, rfl⟩ | ⟨a, cap', he, _, h⟩
  · simp at hl
  · simp at he
    obtain ⟨rfl, _, _⟩ := he
    obtain ⟨b, off, rfl, h1, h2⟩ := h hl
    exact ⟨b, off, rfl, h1, h2⟩
theorem sr_form {w : World} {v : Value} {ts : List (List UInt8)} (h : SR w v ts) : ∃ p cap, v = .slice p ts.length cap := by
  rcases h with ⟨rfl, rfl⟩ | ⟨a, cap, rfl, _⟩
  · exact ⟨none, 0, rfl⟩
  · exact ⟨_, _, rfl⟩
theorem sr_below {w w1 : World} {v : Value} {ts : List (List UInt8)} (h : SR w v ts) (hb : Below w.heap.size w w1) : SR w1 v ts := by
  rcases h with h | ⟨a, c, rfl, hcap, h⟩
  · exact .inl h
  · refine .inr ⟨a, c, rfl, hcap, fun hl => ?_⟩
    obtain ⟨b, off, rfl, h1, h2⟩ := h hl
    exact ⟨b, off, rfl, Nat.lt_of_lt_of_le h1 hb.size, fun i hi => by rw [hb.cell h1]; exact h2 i hi⟩
theorem sr_drew {w : World} {v : Value} {ts : List (List UInt8)} (h : SR w v ts) : SR w.drew v ts := h

/-- a slice of texts of the call's own -/
def OwnS (B : Nat) (v : Value) (ts : List (List UInt8)) (w : World) : Prop := w.ownsRow B 9 1 v ts.length (ts.map strV)
theorem ownS_nil (B : Nat) (w : World) : OwnS B (.slice none 0 0) [] w := World.ownsRow_nil w B 9 1
theorem ownS_below {B : Nat} {v : Value} {l : List (List UInt8)} {w w1 : World} (h : OwnS B v l w) (hb : Below w.heap.size w w1) : OwnS B v l w1 := by
  refine ⟨h.1, ?_⟩
  rcases h.2 with hn | ⟨g, cap, cur, hv, hg, hh, r⟩
  · exact .inl hn
  · exact .inr ⟨g, cap, cur, hv, hg, by rw [hb.block g (Array.getElem?_eq_some_iff.1 hh).1]; exact hh, r⟩
theorem ownS_alloc {B : Nat} {v : Value} {l : List (List UInt8)} {w : World} (h : OwnS B v l w) (o : Obj) : OwnS B v l (w.alloc o) := World.ownsRow.alloc h o
theorem ownS_of_row {B n : Nat} {v : Value} {l : List (List UInt8)} {xs : List Value} {w : World} (h : w.ownsRow B 9 1 v n xs) (hn : n = l.length) (hx : xs = l.map strV) : OwnS B v l w := by
  subst hn
  subst hx
  exact h
theorem sr_of_own {B : Nat} {v : Value} {l : List (List UInt8)} {w : World} (h : OwnS B v l w) : SR w v l := by
  have hc := fun g hg => World.ownsRow.cells (g := g) h hg
  have hlt := World.ownsRow.lt h
  rcases h.2 with ⟨rfl, hl⟩ | ⟨g, cap, cur, rfl, hB, _, hncap, _⟩
  · exact .inl ⟨rfl, List.eq_nil_of_length_eq_zero hl⟩
  · refine .inr ⟨⟨g, 0, none⟩, cap, rfl, hncap, fun _ => ⟨g, 0, rfl, (hlt g rfl).2, fun i hi => ?_⟩⟩
    have h := hc g rfl i (strV l[i]) (by simp [hi])
    have hadd : (⟨g, 0, none⟩ : Addr).add i = ⟨g, i, none⟩ := by unfold Addr.add; split <;> simp_all
    rw [hadd] at h
    simpa using h
theorem info_s : (Try.prog.info? 9).map (fun i => (i.zero, i.size, i.bytes)) = some (some (.string ⟨#[]⟩), 1, 16) := by kernel_rfl

/-- what tells bytes -/
def ToldB (l : List UInt8) (w : World) (e : Ending) (w' : World) : Prop := ∃ v, e = .returned v ∧ RBytes w' v l ∧ Below w.heap.size w w'
/-- what tells bytes, a number, an error -/
def Took (q : List UInt8 × Int × Int) (w : World) (e : Ending) (w' : World) : Prop := ∃ v, e = .returned (.tuple #[v, .int .i64 q.2.1, .int .i64 q.2.2]) ∧ RBytes w' v q.1 ∧ Below w.heap.size w w'
/-- what tells texts, a number, an error -/
def TookAll (q : List (List UInt8) × Int × Int) (w : World) (e : Ending) (w' : World) : Prop := ∃ v, e = .returned (.tuple #[v, .int .i64 q.2.1, .int .i64 q.2.2]) ∧ SR w' v q.1 ∧ Below w.heap.size w w'

/- what Put, Take, All and Refusal of the code tell -/
def PutC13 : Prop := ∀ (v : Value) (c : List Int) (w : World), c.length ≤ 1000 → RI w v c → Calls Try.prog 13 #[v] w (ToldB (Frm.putF c) w)
def TakeC13 : Prop := ∀ (v : Value) (b : List UInt8) (w : World), b.length ≤ 1000000 → RBytes w v b → Calls Try.prog 9 #[v] w (Took (Frm.takeF b) w)
def AllC13 : Prop := ∀ (v : Value) (b : List UInt8) (w : World), b.length ≤ 1000000 → RBytes w v b → Calls Try.prog 11 #[v] w (TookAll (Frm.allF b) w)
def RefC13 : Prop := ∀ (w : World), Calls Try.prog 15 #[] w (ToldB [0] w)

end Go.Proofs.Ytconccgfhdmafaa
