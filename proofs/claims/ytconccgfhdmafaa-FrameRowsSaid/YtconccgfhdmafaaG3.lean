/- Base of every layer: slices of truth values that a call reads or owns (G2 of truth values; written by a program off it). -/
import Derived.Test.YtconccgfhdmafaaBasP
namespace Go.Proofs.Ytconccgfhdmafaa
set_option linter.unusedSimpArgs false
set_option linter.unusedVariables false
open Go.RowKit Go.Lib

abbrev cellsT (l : List Bool) : List Value := l.map (Value.bool)

/-- a slice value that reads as these numbers -/
def RT (w : World) (v : Value) (l : List Bool) : Prop :=
  (v = .slice none 0 0 ∧ l = []) ∨ ∃ a cap, v = .slice (some a) l.length cap ∧ l.length ≤ cap ∧ (0 < l.length → ∃ b off, a = ⟨b, off, none⟩ ∧ b < w.heap.size ∧ ∀ i (h : i < l.length), w.cell? ⟨b, off + i, none⟩ = some (.bool l[i]))

theorem rt_nil (w : World) : RT w (.slice none 0 0) [] := .inl ⟨rfl, rfl⟩

theorem rt_at {w : World} {p : Option Addr} {n cap : Nat} {l : List Bool} (h : RT w (.slice p n cap) l) (hl : 0 < l.length) : ∃ b off, p = some ⟨b, off, none⟩ ∧ b < w.heap.size ∧ ∀ i (h : i < l.length), w.cell? ⟨b, off + i, none⟩ = some (.bool l[i]) := by
  rcases h with ⟨_, rfl⟩ | ⟨a, cap', he, _, h⟩
  · simp at hl
  · simp at he
    obtain ⟨rfl, _, _⟩ := he
    obtain ⟨b, off, rfl, h1, h2⟩ := h hl
    exact ⟨b, off, rfl, h1, h2⟩

theorem rt_form {w : World} {v : Value} {l : List Bool} (h : RT w v l) : ∃ p cap, v = .slice p l.length cap := by
  rcases h with ⟨rfl, rfl⟩ | ⟨a, cap, rfl, _⟩
  · exact ⟨none, 0, rfl⟩
  · exact ⟨_, _, rfl⟩

theorem rt_below {w w1 : World} {v : Value} {l : List Bool} (h : RT w v l) (hb : Below w.heap.size w w1) : RT w1 v l := by
  rcases h with h | ⟨a, c, rfl, hcap, h⟩
  · exact .inl h
  · refine .inr ⟨a, c, rfl, hcap, fun hl => ?_⟩
    obtain ⟨b, o, rfl, h1, h2⟩ := h hl
    exact ⟨b, o, rfl, Nat.lt_of_lt_of_le h1 hb.size, fun i hi => by rw [hb.cell h1]; exact h2 i hi⟩

theorem rt_cast {w : World} {v : Value} {a b : List Bool} (h : RT w v a) (e : a = b) : RT w v b := e ▸ h

/-- what an append reads of such slices -/
theorem rt_src {w : World} {v : Value} {l : List Bool} (h : RT w v l) : Src w v (cellsT l) := by
  rcases h with ⟨rfl, rfl⟩ | ⟨a, cap, rfl, _, h⟩
  · exact .inl ⟨rfl, rfl⟩
  · refine .inr ⟨a, cap, by rw [List.length_map], fun j u hu => ?_⟩
    have hj : j < l.length := by
      rcases Nat.lt_or_ge j l.length with hj | hj
      · exact hj
      · rw [List.getElem?_eq_none (by simpa using hj)] at hu
        cases hu
    obtain ⟨b, off, rfl, _, hc⟩ := h (by omega)
    have hadd : (⟨b, off, none⟩ : Addr).add j = ⟨b, off + j, none⟩ := by unfold Addr.add; split <;> simp_all
    rw [hadd, hc j hj]
    simpa [hj] using hu

theorem info_t : (Try.prog.info? 4).map (fun i => (i.zero, i.size, i.bytes)) = some (some (.bool false), 1, 1) := by kernel_rfl

theorem oneCellT (l : List Bool) : ∀ u ∈ cellsT l, u.oneCell' = true := by
  intro u hu
  obtain ⟨x, _, rfl⟩ := List.mem_map.1 hu
  rfl

/-- the slice value v is the call's own (from block B on), and holds these numbers -/
def OwnT (B : Nat) (v : Value) (l : List Bool) (w : World) : Prop := w.ownsRow B 4 1 v l.length (cellsT l)

theorem ownT_nil (B : Nat) (w : World) : OwnT B (.slice none 0 0) [] w := World.ownsRow_nil w B 4 1

/-- a literal of these numbers, just made -/
theorem ownT_lit (B : Nat) (w : World) (l : List Bool) (cs : Array Value) (k n : Nat) (hk : w.heap.size = k) (hB : B ≤ k) (hcs : cs.toList = cellsT l) (hn : n = l.length) (hm : n ≤ maxLen) :
    OwnT B (.slice (some ⟨k, 0, none⟩) n n) l (w.alloc (.cells cs 4)) := by
  subst hk
  subst hn
  have hs : cs.size = l.length := by rw [← Array.length_toList, hcs, List.length_map]
  refine ⟨by simp, .inr ⟨w.heap.size, l.length, cs, rfl, hB, heap_alloc_new w _, Nat.le_refl _, hm, by rw [hs, Nat.mul_one], ?_⟩⟩
  rw [hcs, Nat.mul_one]
  exact List.take_of_length_le (by simp)

theorem ownT_of_row {B n : Nat} {v : Value} {l : List Bool} {xs : List Value} {w : World} (h : w.ownsRow B 4 1 v n xs) (hn : n = l.length) (hx : xs = cellsT l) : OwnT B v l w := by
  subst hn
  subst hx
  exact h

theorem ownT_cast {B : Nat} {v : Value} {a b : List Bool} {w : World} (h : OwnT B v a w) (e : a = b) : OwnT B v b w := e ▸ h

theorem ownT_below {B : Nat} {v : Value} {l : List Bool} {w w1 : World} (h : OwnT B v l w) (hb : Below w.heap.size w w1) : OwnT B v l w1 := by
  refine ⟨h.1, ?_⟩
  rcases h.2 with hn | ⟨g, cap, cur, hv, hg, hh, r⟩
  · exact .inl hn
  · exact .inr ⟨g, cap, cur, hv, hg, by rw [hb.block g (Array.getElem?_eq_some_iff.1 hh).1]; exact hh, r⟩

theorem ownT_alloc {B : Nat} {v : Value} {l : List Bool} {w : World} (h : OwnT B v l w) (o : Obj) : OwnT B v l (w.alloc o) := World.ownsRow.alloc h o
theorem ownT_drewN {B : Nat} {v : Value} {l : List Bool} {w : World} (h : OwnT B v l w) (n : Nat) : OwnT B v l (w.drewN n) := h

theorem ownT_mono {B B' : Nat} {v : Value} {l : List Bool} {w : World} (h : OwnT B' v l w) (hB : B ≤ B') : OwnT B v l w := by
  refine ⟨h.1, ?_⟩
  rcases h.2 with hn | ⟨g, cap, cur, hv, hg, r⟩
  · exact .inl hn
  · exact .inr ⟨g, cap, cur, hv, Nat.le_trans hB hg, r⟩

theorem ownT_set {B : Nat} {v : Value} {l : List Bool} {w : World} (h : OwnT B v l w) (a : Addr) (u : Value) (hne : v.ownBlock = none ∨ v.ownBlock ≠ some a.block) : OwnT B v l (w.setCell a u) := by
  refine World.ownsRow.kept (row := some a.block) h ⟨rfl, rfl, rfl, by simp [World.setCell], fun k _ hk => ?_⟩ hne
  exact Below.heap_setCell _ _ _ _ (fun e => hk (by rw [e]))

theorem ownT_ne {B k : Nat} {v : Value} {l : List Bool} {w : World} (h : OwnT B v l w) (hk : k < B) : v.ownBlock = none ∨ v.ownBlock ≠ some k := by
  refine .inr fun e => ?_
  have := (World.ownsRow.lt h k e).1
  omega

theorem ownT_lt {B : Nat} {v : Value} {l : List Bool} {w : World} (h : OwnT B v l w) (k : Nat) (hk : v.ownBlock = some k) : B ≤ k := (World.ownsRow.lt h k hk).1

theorem rt_of_own {B : Nat} {v : Value} {l : List Bool} {w : World} (h : OwnT B v l w) : RT w v l := by
  have hc := fun g hg => World.ownsRow.cells (g := g) h hg
  have hlt := World.ownsRow.lt h
  rcases h.2 with ⟨rfl, hl⟩ | ⟨g, cap, cur, rfl, hB, _, hncap, _⟩
  · exact .inl ⟨rfl, List.eq_nil_of_length_eq_zero hl⟩
  · refine .inr ⟨⟨g, 0, none⟩, cap, rfl, hncap, fun _ => ⟨g, 0, rfl, (hlt g rfl).2, fun i hi => ?_⟩⟩
    have h := hc g rfl i (.bool l[i]) (by simp [hi])
    have hadd : (⟨g, 0, none⟩ : Addr).add i = ⟨g, i, none⟩ := by unfold Addr.add; split <;> simp_all
    rw [hadd] at h
    simpa using h

theorem ownT_open {B : Nat} {v : Value} {l : List Bool} {w : World} (h : OwnT B v l w) (hl : 0 < l.length) : ∃ b cap, v = .slice (some ⟨b, 0, none⟩) l.length cap ∧ B ≤ b ∧ b < w.heap.size ∧ ∀ i (h : i < l.length), w.cell? ⟨b, i, none⟩ = some (.bool l[i]) := by
  have hc := fun g hg => World.ownsRow.cells (g := g) h hg
  have hlt := World.ownsRow.lt h
  rcases h.2 with ⟨rfl, h0⟩ | ⟨g, cap, cur, rfl, hB, _, hncap, _⟩
  · omega
  · refine ⟨g, cap, rfl, hB, (hlt g rfl).2, fun i hi => ?_⟩
    have h := hc g rfl i (.bool l[i]) (by simp [hi])
    have hadd : (⟨g, 0, none⟩ : Addr).add i = ⟨g, i, none⟩ := by unfold Addr.add; split <;> simp_all
    rw [hadd] at h
    simpa using h

theorem ownT_len {B : Nat} {v : Value} {l : List Bool} {w : World} (h : OwnT B v l w) : l.length ≤ maxLen := by
  rcases h.2 with ⟨_, hl⟩ | ⟨g, cap, cur, _, _, _, h1, h2, _⟩
  · omega
  · omega

/-- an own slice's end, cut off its beginning -/
theorem rt_drop {w : World} {a : Addr} {n cap : Nat} {l : List Bool} (h : RT w (.slice (some a) n cap) l) (k : Nat) (hk : k < l.length) : ∃ b off, a = ⟨b, off, none⟩ ∧ RT w (.slice (some ⟨b, off + k, none⟩) (n - k) (cap - k)) (l.drop k) := by
  rcases h with ⟨h, _⟩ | ⟨a', c, he, hc, h⟩
  · simp at h
  · simp at he
    obtain ⟨rfl, rfl, rfl⟩ := he
    obtain ⟨b, o, rfl, h1, h2⟩ := h (by omega)
    refine ⟨b, o, rfl, .inr ⟨⟨b, o + k, none⟩, cap - k, by rw [List.length_drop], by rw [List.length_drop]; omega, fun _ => ⟨b, o + k, rfl, h1, fun i hi => ?_⟩⟩⟩
    rw [List.length_drop] at hi
    rw [List.getElem_drop, Nat.add_assoc]
    exact h2 (k + i) (by omega)

/-- what a call that tells numbers comes to -/
def ToldT (l : List Bool) (w : World) (e : Ending) (w' : World) : Prop := ∃ v, e = .returned v ∧ RT w' v l ∧ Below w.heap.size w w'
/-- .. in memory of its own -/
def MakesT (l : List Bool) (w : World) (e : Ending) (w' : World) : Prop := ∃ v, e = .returned v ∧ OwnT w.heap.size v l w' ∧ Below w.heap.size w w'
theorem toldT_of_makes {l : List Bool} {w : World} {e : Ending} {w' : World} (h : MakesT l w e w') : ToldT l w e w' := by
  obtain ⟨v, rfl, hv, hb⟩ := h
  exact ⟨v, rfl, rt_of_own hv, hb⟩

theorem rt_take {w : World} {p : Option Addr} {n cap : Nat} {l : List Bool} (h : RT w (.slice p n cap) l) (k : Nat) (hk : k ≤ l.length) : RT w (.slice p k cap) (l.take k) := by
  rcases h with ⟨h, rfl⟩ | ⟨a, c, he, hc, h⟩
  · simp at h hk
    obtain ⟨rfl, rfl, rfl⟩ := h
    subst hk
    exact .inl ⟨rfl, rfl⟩
  · simp at he
    obtain ⟨rfl, rfl, rfl⟩ := he
    have hl : (l.take k).length = k := by rw [List.length_take]; omega
    refine .inr ⟨a, cap, by rw [hl], by rw [hl]; omega, fun h0 => ?_⟩
    rw [hl] at h0
    obtain ⟨b, o, rfl, h1, h2⟩ := h (by omega)
    refine ⟨b, o, rfl, h1, fun i hi => ?_⟩
    rw [hl] at hi
    rw [List.getElem_take]
    exact h2 i (by omega)

theorem rt_from {w : World} {b off n cap : Nat} {l : List Bool} (h : RT w (.slice (some ⟨b, off, none⟩) n cap) l) (k : Nat) (hk : k ≤ l.length) (hl : 0 < l.length) : RT w (.slice (some ⟨b, off + k, none⟩) (n - k) (cap - k)) (l.drop k) := by
  rcases h with ⟨h, _⟩ | ⟨a, c, he, hc, h⟩
  · simp at h
  · simp at he
    obtain ⟨rfl, rfl, rfl⟩ := he
    obtain ⟨b', o', he, h1, h2⟩ := h hl
    simp at he
    obtain ⟨rfl, rfl⟩ := he
    refine .inr ⟨⟨b, off + k, none⟩, cap - k, by rw [List.length_drop], by rw [List.length_drop]; omega, fun _ => ⟨b, off + k, rfl, h1, fun i hi => ?_⟩⟩
    rw [List.length_drop] at hi
    rw [List.getElem_drop, Nat.add_assoc]
    exact h2 (k + i) (by omega)

theorem rt_none (w : World) (a : Option Addr) (cap : Nat) (h : a = none → cap = 0) : RT w (.slice a 0 cap) [] := by
  cases a with
  | none => rw [h rfl]; exact .inl ⟨rfl, rfl⟩
  | some a => exact .inr ⟨a, cap, rfl, Nat.zero_le _, fun h => by simp at h⟩

theorem rt_cap {w : World} {p : Option Addr} {n cap : Nat} {l : List Bool} (h : RT w (.slice p n cap) l) : n = l.length ∧ n ≤ cap ∧ (p = none → cap = 0) := by
  rcases h with ⟨h, rfl⟩ | ⟨a, c, he, hc, h⟩
  · simp at h
    obtain ⟨rfl, rfl, rfl⟩ := h
    exact ⟨rfl, Nat.le_refl _, fun _ => rfl⟩
  · simp at he
    obtain ⟨rfl, rfl, rfl⟩ := he
    exact ⟨rfl, hc, fun h => by cases h⟩

end Go.Proofs.Ytconccgfhdmafaa
