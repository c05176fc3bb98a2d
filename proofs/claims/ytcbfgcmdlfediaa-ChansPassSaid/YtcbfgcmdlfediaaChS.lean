/- Layer 16: what reads off some blocks; a channel as a value; what is asked of the code's functions. -/
import Derived.Test.YtcbfgcmdlfediaaChM
import Derived.Test.YtcbfgcmdlfediaaBasP
namespace Go.Proofs.Ytcbfgcmdlfediaa
set_option linter.unusedSimpArgs false
set_option linter.unusedVariables false
open Go.RowKit Go.Lib
open Stg (Ch)
/-- between two worlds only the blocks of J were written -/
def OnlyIn (J : Nat → Prop) (w w1 : World) : Prop := w.heap.size ≤ w1.heap.size ∧ ∀ j, j < w.heap.size → ¬ J j → w1.heap[j]? = w.heap[j]?
theorem only_trans {J : Nat → Prop} {w w1 w2 : World} (h1 : OnlyIn J w w1) (h2 : OnlyIn J w1 w2) : OnlyIn J w w2 :=
  ⟨Nat.le_trans h1.1 h2.1, fun j hj hJ => (h2.2 j (Nat.lt_of_lt_of_le hj h1.1) hJ).trans (h1.2 j hj hJ)⟩
theorem only_below {J : Nat → Prop} {w w1 : World} (h : Below w.heap.size w w1) : OnlyIn J w w1 := ⟨h.size, fun j hj _ => h.block j hj⟩
theorem only_set {J : Nat → Prop} (w : World) (a : Addr) (u : Value) (h : J a.block) : OnlyIn J w (w.setCell a u) :=
  ⟨by simp, fun j _ hJ => Below.heap_setCell _ _ _ _ (fun e => hJ (by rw [e]; exact h))⟩
theorem only_grown {J : Nat → Prop} {w w1 : World} {row : Option Nat} (h : w.grownBy w1 row) (hJ : ∀ j, row = some j → J j) : OnlyIn J w w1 := ⟨h.size, fun j hj hr => h.block j hj fun e => hr (hJ j e.symm)⟩
/-- reads as these numbers, off the blocks of J -/
def RIo (J : Nat → Prop) (w : World) (v : Value) (l : List Int) : Prop := RI w v l ∧ (l ≠ [] → ∀ j, v.ownBlock = some j → ¬ J j)
theorem rio_of {w : World} {v : Value} {l : List Int} (h : RI w v l) : RIo (fun _ => False) w v l := ⟨h, fun _ _ _ h => h⟩
theorem rio_mono {J K : Nat → Prop} {w : World} {v : Value} {l : List Int} (h : RIo J w v l) (hK : ∀ j, j < w.heap.size → K j → J j) : RIo K w v l := by
  refine ⟨h.1, fun hl j e hj => ?_⟩
  rcases h.1 with ⟨rfl, _⟩ | ⟨a, c, rfl, _, h1⟩
  · cases e
  · obtain ⟨b, o, rfl, hb, _⟩ := h1 (List.length_pos_iff.2 hl)
    cases e
    exact h.2 hl _ rfl (hK _ hb hj)
theorem rio_but {J : Nat → Prop} {w w1 : World} {v : Value} {l : List Int} (h : RIo J w v l) (hs : OnlyIn J w w1) : RIo J w1 v l := by
  refine ⟨?_, h.2⟩
  rcases h.1 with h1 | ⟨a, c, rfl, hcap, h1⟩
  · exact .inl h1
  · refine .inr ⟨a, c, rfl, hcap, fun hl => ?_⟩
    obtain ⟨b, o, rfl, h1, h2⟩ := h1 hl
    refine ⟨b, o, rfl, Nat.lt_of_lt_of_le h1 hs.1, fun i hi => ?_⟩
    exact (World.cell?_of_block (w := w) (a := ⟨b, o + i, none⟩) (hs.2 b h1 (h.2 (List.length_pos_iff.1 hl) b rfl))).trans (h2 i hi)
/-- an own row reads off all blocks ahead of it -/
theorem rio_own {J : Nat → Prop} {B : Nat} {w : World} {v : Value} {l : List Int} (h : OwnI B v l w) (hJ : ∀ j, B ≤ j → ¬ J j) : RIo J w v l := ⟨ri_of_own h, fun _ j e => hJ j (ownI_lt h j e)⟩
theorem rio_new {J : Nat → Prop} {w : World} {v : Value} {l : List Int} (h : RI w v l) (hJ : ∀ j, J j → w.heap.size ≤ j) : RIo J w v l := by
  refine ⟨h, fun hl j e hj => ?_⟩
  rcases h with ⟨rfl, _⟩ | ⟨a, c, rfl, _, h1⟩
  · cases e
  · obtain ⟨b, o, rfl, hb, _⟩ := h1 (List.length_pos_iff.2 hl)
    cases e
    exact absurd hb (Nat.not_lt.2 (hJ _ hj))
/-- a slice of slices of whole numbers, all off the blocks of J -/
def RRo (J : Nat → Prop) (w : World) (v : Value) (ls : List (List Int)) : Prop :=
  (v = .slice none 0 0 ∧ ls = []) ∨ ∃ a cap, v = .slice (some a) ls.length cap ∧ ls.length ≤ cap ∧ (0 < ls.length → ∃ b off, a = ⟨b, off, none⟩ ∧ b < w.heap.size ∧ ¬ J b ∧ ∀ i (h : i < ls.length), ∃ u, w.cell? ⟨b, off + i, none⟩ = some u ∧ RIo J w u ls[i])
theorem rro_nil (J : Nat → Prop) (w : World) : RRo J w (.slice none 0 0) [] := .inl ⟨rfl, rfl⟩
theorem rro_at {J : Nat → Prop} {w : World} {p : Option Addr} {n cap : Nat} {ls : List (List Int)} (h : RRo J w (.slice p n cap) ls) (hl : 0 < ls.length) : ∃ b off, p = some ⟨b, off, none⟩ ∧ b < w.heap.size ∧ ¬ J b ∧ ∀ i (h : i < ls.length), ∃ u, w.cell? ⟨b, off + i, none⟩ = some u ∧ RIo J w u ls[i] := by
  rcases h with ⟨_, rfl⟩ | ⟨a, cap', he, _, h⟩
  · simp at hl
  · simp at he
    obtain ⟨rfl, _, _⟩ := he
    obtain ⟨b, off, rfl, h1, h2⟩ := h hl
    exact ⟨b, off, rfl, h1, h2⟩
theorem rro_form {J : Nat → Prop} {w : World} {v : Value} {ls : List (List Int)} (h : RRo J w v ls) : ∃ p cap, v = .slice p ls.length cap := by
  rcases h with ⟨rfl, rfl⟩ | ⟨a, cap, rfl, _⟩
  · exact ⟨none, 0, rfl⟩
  · exact ⟨_, _, rfl⟩
theorem rro_but {J : Nat → Prop} {w w1 : World} {v : Value} {ls : List (List Int)} (h : RRo J w v ls) (hs : OnlyIn J w w1) : RRo J w1 v ls := by
  rcases h with h | ⟨a, c, rfl, hcap, h⟩
  · exact .inl h
  · refine .inr ⟨a, c, rfl, hcap, fun hl => ?_⟩
    obtain ⟨b, off, rfl, h1, hJ, h2⟩ := h hl
    refine ⟨b, off, rfl, Nat.lt_of_lt_of_le h1 hs.1, hJ, fun i hi => ?_⟩
    obtain ⟨u, h3, h4⟩ := h2 i hi
    exact ⟨u, (World.cell?_of_block (w := w) (a := ⟨b, off + i, none⟩) (hs.2 b h1 hJ)).trans h3, rio_but h4 hs⟩
theorem rro_mono {J K : Nat → Prop} {w : World} {v : Value} {ls : List (List Int)} (h : RRo J w v ls) (hK : ∀ j, j < w.heap.size → K j → J j) : RRo K w v ls := by
  rcases h with h | ⟨a, c, rfl, hcap, h⟩
  · exact .inl h
  · refine .inr ⟨a, c, rfl, hcap, fun hl => ?_⟩
    obtain ⟨b, off, rfl, h1, hJ, h2⟩ := h hl
    refine ⟨b, off, rfl, h1, fun hb => hJ (hK b h1 hb), fun i hi => ?_⟩
    obtain ⟨u, h3, h4⟩ := h2 i hi
    exact ⟨u, h3, rio_mono h4 hK⟩
theorem rro_cap {J : Nat → Prop} {w : World} {p : Option Addr} {n cap : Nat} {ls : List (List Int)} (h : RRo J w (.slice p n cap) ls) : n = ls.length ∧ n ≤ cap ∧ (p = none → cap = 0) := by
  rcases h with ⟨e, rfl⟩ | ⟨a, cap', he, h1, _⟩
  · cases e
    exact ⟨rfl, Nat.le_refl _, fun _ => rfl⟩
  · cases he
    exact ⟨rfl, h1, fun h => by cases h⟩
/-- without the first ones -/
theorem rro_from {J : Nat → Prop} {w : World} {b off n cap : Nat} {ls : List (List Int)} (h : RRo J w (.slice (some ⟨b, off, none⟩) n cap) ls) (k : Nat) (hk : k ≤ ls.length) (hl : 0 < ls.length) : RRo J w (.slice (some ⟨b, off + k, none⟩) (n - k) (cap - k)) (ls.drop k) := by
  obtain ⟨hn, hc, _⟩ := rro_cap h
  obtain ⟨b', off', e, h1, hJ, h2⟩ := rro_at h hl
  cases e
  refine .inr ⟨_, cap - k, by rw [List.length_drop, hn], by rw [List.length_drop]; omega, fun hd => ⟨b, off + k, rfl, h1, hJ, fun i hi => ?_⟩⟩
  rw [List.length_drop] at hi
  obtain ⟨u, h3, h4⟩ := h2 (k + i) (by omega)
  refine ⟨u, by rw [Nat.add_assoc]; exact h3, ?_⟩
  rw [List.getElem_drop]
  exact h4
theorem rro_none (J : Nat → Prop) (w : World) (a : Option Addr) (cap : Nat) (h : a = none → cap = 0) : RRo J w (.slice a 0 cap) [] := by
  cases a with
  | none => obtain rfl := h rfl; exact .inl ⟨rfl, rfl⟩
  | some a => exact .inr ⟨a, cap, rfl, Nat.zero_le _, fun h => by simp at h⟩
/-- a value that reads as this channel -/
def RCh (J : Nat → Prop) (w : World) (v : Value) (c : Ch) : Prop := ∃ vl, v = .agg #[vl, .bool c.closed] ∧ RRo J w vl c.L
theorem rch_but {J : Nat → Prop} {w w1 : World} {v : Value} {c : Ch} (h : RCh J w v c) (hs : OnlyIn J w w1) : RCh J w1 v c := by
  obtain ⟨vl, e, h⟩ := h
  exact ⟨vl, e, rro_but h hs⟩
theorem rch_below {J : Nat → Prop} {w w1 : World} {v : Value} {c : Ch} (h : RCh J w v c) (hs : Below w.heap.size w w1) : RCh J w1 v c := rch_but h (only_below hs)
theorem rch_mono {J K : Nat → Prop} {w : World} {v : Value} {c : Ch} (h : RCh J w v c) (hK : ∀ j, j < w.heap.size → K j → J j) : RCh K w v c := by
  obtain ⟨vl, e, h⟩ := h
  exact ⟨vl, e, rro_mono h hK⟩
theorem rch_form {J : Nat → Prop} {w : World} {v : Value} {c : Ch} (h : RCh J w v c) : ∃ p cap, v = .agg #[.slice p c.L.length cap, .bool c.closed] ∧ RRo J w (.slice p c.L.length cap) c.L := by
  obtain ⟨vl, rfl, h⟩ := h
  obtain ⟨p, cap, rfl⟩ := rro_form h
  exact ⟨p, cap, rfl, h⟩
theorem rch_zero (J : Nat → Prop) (w : World) : RCh J w (.agg #[.slice none 0 0, .bool false]) ⟨[], false⟩ := ⟨_, rfl, rro_nil J w⟩
/-- the blocks of J, and all that is new -/
abbrev Up (J : Nat → Prop) (w : World) : Nat → Prop := fun j => J j ∨ w.heap.size ≤ j
theorem rio_up {J : Nat → Prop} {w : World} {v : Value} {l : List Int} (h : RIo J w v l) : RIo (Up J w) w v l := by
  refine ⟨h.1, fun hl j e hj => ?_⟩
  rcases hj with hj | hj
  · exact h.2 hl j e hj
  · exact (rio_new (J := fun j => w.heap.size ≤ j) h.1 (fun j h => h)).2 hl j e hj
theorem rro_up {J : Nat → Prop} {w : World} {v : Value} {ls : List (List Int)} (h : RRo J w v ls) : RRo (Up J w) w v ls := by
  rcases h with h | ⟨a, c, rfl, hcap, h⟩
  · exact .inl h
  · refine .inr ⟨a, c, rfl, hcap, fun hl => ?_⟩
    obtain ⟨b, off, rfl, h1, hJ, h2⟩ := h hl
    refine ⟨b, off, rfl, h1, fun hb => hb.elim hJ (fun hb => absurd h1 (Nat.not_lt.2 hb)), fun i hi => ?_⟩
    obtain ⟨u, h3, h4⟩ := h2 i hi
    exact ⟨u, h3, rio_up h4⟩
theorem rch_up {J : Nat → Prop} {w : World} {v : Value} {c : Ch} (h : RCh J w v c) : RCh (Up J w) w v c := by
  obtain ⟨vl, e, h⟩ := h
  exact ⟨vl, e, rro_up h⟩
theorem rro_down {J : Nat → Prop} {w w0 : World} {v : Value} {ls : List (List Int)} (h : RRo (Up J w0) w v ls) : RRo J w v ls := rro_mono h fun _ _ h => .inl h
theorem rio_down {J : Nat → Prop} {w w0 : World} {v : Value} {l : List Int} (h : RIo (Up J w0) w v l) : RIo J w v l := rio_mono h fun _ _ h => .inl h
/-- channels of some blocks of some items -/
structure Stg.Ch.Few (c : Ch) : Prop where
  n : c.L.length ≤ 1000
  b : ∀ b ∈ c.L, b.length ≤ 10000
/-- blocks that were there before -/
abbrev Old (J : Nat → Prop) (w : World) : Prop := ∀ j, J j → j < w.heap.size
def ToldC (J : Nat → Prop) (c : Ch) (w : World) (e : Ending) (w' : World) : Prop := ∃ v, e = .returned v ∧ RCh J w' v c ∧ Below w.heap.size w w'
def ToldCB (J : Nat → Prop) (q : Ch × Bool) (w : World) (e : Ending) (w' : World) : Prop := ∃ v, e = .returned (.tuple #[v, .bool q.2]) ∧ RCh J w' v q.1 ∧ Below w.heap.size w w'
def ToldCLB (J : Nat → Prop) (q : Ch × List Int × Bool) (w : World) (e : Ending) (w' : World) : Prop := ∃ v vb, e = .returned (.tuple #[v, vb, .bool q.2.2]) ∧ RCh J w' v q.1 ∧ RIo J w' vb q.2.1 ∧ Below w.heap.size w w'
def SaneC16 : Prop := ∀ (J : Nat → Prop) (v : Value) (c : Ch) (w : World), c.Few → RCh J w v c → Calls Try.prog 18 #[v] w fun e w' => e = .returned (.bool (Stg.saneC c)) ∧ Below w.heap.size w w'
def PutC16 : Prop := ∀ (J : Nat → Prop) (v : Value) (c : Ch) (vb : Value) (b : List Int) (w : World), Old J w → c.Few → b.length ≤ 10000 → RCh J w v c → RIo J w vb b → Calls Try.prog 11 #[v, vb] w (ToldCB J (Stg.putC c b) w)
def TakeC16 : Prop := ∀ (J : Nat → Prop) (v : Value) (c : Ch) (w : World), Old J w → c.Few → RCh J w v c → Calls Try.prog 14 #[v] w (ToldCLB J (Stg.takeC c) w)
def CloseC16 : Prop := ∀ (J : Nat → Prop) (v : Value) (c : Ch) (w : World), Old J w → c.Few → RCh J w v c → Calls Try.prog 20 #[v] w (ToldC J (Stg.closeC c) w)
def SpentC16 : Prop := ∀ (J : Nat → Prop) (v : Value) (c : Ch) (w : World), c.Few → RCh J w v c → Calls Try.prog 22 #[v] w fun e w' => e = .returned (.bool (Stg.spentC c)) ∧ Below w.heap.size w w'
def CountC16 : Prop := ∀ (J : Nat → Prop) (v : Value) (c : Ch) (w : World), c.Few → RCh J w v c → Calls Try.prog 24 #[v] w fun e w' => e = .returned (.int .i64 (Stg.countC c : Nat)) ∧ Below w.heap.size w w'
theorem few_sane {c : Ch} (h : Stg.saneC c = true) : c.Few := by
  have := (Stg.saneC_iff c).1 h
  exact ⟨by omega, fun b hb => by have := (this.2 b hb).2; omega⟩
end Go.Proofs.Ytcbfgcmdlfediaa
