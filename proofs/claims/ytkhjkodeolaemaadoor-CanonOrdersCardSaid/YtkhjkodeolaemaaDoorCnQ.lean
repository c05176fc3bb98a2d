/- Layer 7: what is put together, by the places in the list; a cell of an own slice, written. -/
import Derived.Test.YtkhjkodeolaemaaDoorCnC
import Derived.Test.YtkhjkodeolaemaaDoorG2
import Derived.Laws.OwnMore
namespace Go.Proofs.YtkhjkodeolaemaaDoor
set_option linter.unusedSimpArgs false
set_option linter.unusedVariables false
open Go.RowKit Go.Lib

namespace Can
open Prp (mrkB cccI)
open Par (joinI)

theorem putR_past (f : Int → Option Int) (A B : List Int) (h : ∀ x ∈ A, mrkB x = true) : putR f (A ++ B) = (putR f B).map (A ++ ·) := by
  induction A with
  | nil => simp
  | cons x t ih =>
    rw [List.cons_append, putR, if_pos (h x (List.mem_cons_self ..)), ih fun y hy => h y (List.mem_cons_of_mem _ hy)]
    cases putR f B <;> simp

/-- what a list with its last head at k comes to -/
theorem rev_at (m : List Int) (k : Nat) (hk : k < m.length) : m.reverse = (m.drop (k + 1)).reverse ++ (m[k] :: (m.take k).reverse) := by
  have e : m = m.take k ++ m[k] :: m.drop (k + 1) := by
    rw [List.getElem_cons_drop]
    exact (List.take_append_drop k m).symm
  conv => lhs; rw [e]
  rw [List.reverse_append, List.reverse_cons, List.append_assoc]
  rfl

theorem putR_at (f : Int → Option Int) (m : List Int) (k : Nat) (hk : k < m.length) (hm : mrkB m[k] = false) (h : ∀ j (hj : j < m.length), k < j → mrkB m[j] = true) :
    putR f m.reverse = (f m[k]).map fun v => (m.set k v).reverse := by
  rw [rev_at m k hk, putR_past]
  · rw [putR, if_neg (by rw [hm]; simp)]
    cases f m[k] with
    | none => rfl
    | some v =>
      have hs : (m.set k v).reverse = (m.drop (k + 1)).reverse ++ (v :: (m.take k).reverse) := by
        rw [rev_at (m.set k v) k (by simpa using hk), List.getElem_set_self, List.drop_set_of_lt (by omega), List.take_set_of_le (by omega)]
      show some ((m.drop (k + 1)).reverse ++ (v :: (m.take k).reverse)) = some (m.set k v).reverse
      rw [hs]
  · intro x hx
    rw [List.mem_reverse] at hx
    obtain ⟨j, hj, rfl⟩ := List.mem_iff_getElem.1 hx
    rw [List.length_drop] at hj
    rw [List.getElem_drop]
    exact h _ (by omega) (by omega)

theorem putR_none (f : Int → Option Int) (R : List Int) (h : ∀ x ∈ R, mrkB x = true) : putR f R = none := by
  have := putR_past f R [] h
  rw [List.append_nil] at this
  rw [this]
  rfl

theorem cstep_marks (m : List Int) (r : Int) (h : ∀ j (hj : j < m.length), mrkB m[j] = true) : cstep m.reverse r = r :: m.reverse := by
  unfold cstep
  split
  · rfl
  · rw [putR_none]
    · rfl
    · intro x hx
      rw [List.mem_reverse] at hx
      obtain ⟨j, hj, rfl⟩ := List.mem_iff_getElem.1 hx
      exact h j hj

theorem block_last (m : List Int) (L : Nat) (hL : m.length = L + 1) (r : Int) : blockR r m.reverse = (mrkB (m[L]'(by omega)) && decide (cccI r ≤ cccI (m[L]'(by omega)))) := by
  rw [rev_at m L (by omega)]
  rw [List.drop_of_length_le (by omega)]
  rfl

/-- blocked -/
theorem cstep_block (m : List Int) (L : Nat) (hL : m.length = L + 1) (r : Int) (h1 : mrkB (m[L]'(by omega)) = true) (h2 : cccI r ≤ cccI (m[L]'(by omega))) : cstep m.reverse r = r :: m.reverse := by
  unfold cstep
  rw [if_pos (by rw [block_last m L hL, h1, decide_eq_true h2]; rfl)]

/-- not blocked: as the head's pair says -/
theorem cstep_head (m : List Int) (L : Nat) (hL : m.length = L + 1) (r : Int) (k : Nat) (hk : k < m.length) (hm : mrkB m[k] = false) (h : ∀ j (hj : j < m.length), k < j → mrkB m[j] = true)
    (hb : ¬ (mrkB (m[L]'(by omega)) = true ∧ cccI r ≤ cccI (m[L]'(by omega)))) : cstep m.reverse r = match joinI m[k] r with | some v => (m.set k v).reverse | none => r :: m.reverse := by
  unfold cstep
  have hbl : blockR r m.reverse = false := by
    rw [block_last m L hL]
    simp only [Bool.and_eq_false_imp, decide_eq_false_iff_not]
    exact fun h1 h2 => hb ⟨h1, h2⟩
  rw [if_neg (by rw [hbl]; simp), putR_at _ m k hk hm h]
  cases joinI m[k] r <;> rfl

theorem compose_snoc (l : List Int) (x : Int) : composeI (l ++ [x]) = (cstep (composeI l).reverse x).reverse := by
  unfold composeI
  rw [compR_app, List.reverse_reverse]
  rfl

end Can

/-- a cell of an own slice, written -/
theorem ownI_store {B g cap n : Nat} {l : List Int} {w : World} (h : OwnI B (.slice (some ⟨g, 0, none⟩) n cap) l w) (hn : n = l.length) (k : Nat) (v : Int) :
    OwnI B (.slice (some ⟨g, 0, none⟩) n cap) (l.set k v) (w.setCell ⟨g, k, none⟩ (.int .i64 v)) := by
  subst hn
  have h2 := (World.ownsRow.stored h k (.int .i64 v)).1
  have e : (cellsI l).set k (.int .i64 v) = cellsI (l.set k v) := by simp
  rw [e] at h2
  exact ownI_of_row h2 (by simp) rfl
end Go.Proofs.YtkhjkodeolaemaaDoor
