/- Layer 16: rows of what is done (a number, a slice); are there few small ones? -/
import Derived.Test.YtcbfgcmdlfediaaChW0
import Derived.Deep.LoopGhost
import Derived.Deep.DeepCutAuto
namespace Go.Proofs.Ytcbfgcmdlfediaa
set_option linter.unusedSimpArgs false
set_option linter.unusedVariables false
open Go.RowKit Go.Lib
open Stg (Ch)
/-- a slice of what is done -/
def ROps (w : World) (v : Value) (ops : List (Int × List Int)) : Prop :=
  (v = .slice none 0 0 ∧ ops = []) ∨ ∃ a cap, v = .slice (some a) ops.length cap ∧ ops.length ≤ cap ∧ (0 < ops.length → ∃ b off, a = ⟨b, off, none⟩ ∧ b < w.heap.size ∧ ∀ i (h : i < ops.length), w.cell? ⟨b, off + i * 2, none⟩ = some (.int .i64 (ops[i]).1) ∧ ∃ u, w.cell? ⟨b, off + i * 2 + 1, none⟩ = some u ∧ RI w u (ops[i]).2)
theorem rops_at {w : World} {p : Option Addr} {n cap : Nat} {ops : List (Int × List Int)} (h : ROps w (.slice p n cap) ops) (hl : 0 < ops.length) : ∃ b off, p = some ⟨b, off, none⟩ ∧ b < w.heap.size ∧ ∀ i (h : i < ops.length), w.cell? ⟨b, off + i * 2, none⟩ = some (.int .i64 (ops[i]).1) ∧ ∃ u, w.cell? ⟨b, off + i * 2 + 1, none⟩ = some u ∧ RI w u (ops[i]).2 := by
  rcases h with ⟨_, rfl⟩ | ⟨a, cap', he, _, h⟩
  · simp at hl
  · simp at he
    obtain ⟨rfl, _, _⟩ := he
    obtain ⟨b, off, rfl, h1, h2⟩ := h hl
    exact ⟨b, off, rfl, h1, h2⟩
theorem rops_form {w : World} {v : Value} {ops : List (Int × List Int)} (h : ROps w v ops) : ∃ p cap, v = .slice p ops.length cap := by
  rcases h with ⟨rfl, rfl⟩ | ⟨a, cap, rfl, _⟩
  · exact ⟨none, 0, rfl⟩
  · exact ⟨_, _, rfl⟩
theorem rops_below {w w1 : World} {v : Value} {ops : List (Int × List Int)} (h : ROps w v ops) (hb : Below w.heap.size w w1) : ROps w1 v ops := by
  rcases h with h | ⟨a, c, rfl, hcap, h⟩
  · exact .inl h
  · refine .inr ⟨a, c, rfl, hcap, fun hl => ?_⟩
    obtain ⟨b, off, rfl, h1, h2⟩ := h hl
    refine ⟨b, off, rfl, Nat.lt_of_lt_of_le h1 hb.size, fun i hi => ?_⟩
    obtain ⟨h3, u, h4, h5⟩ := h2 i hi
    exact ⟨(hb.cell (p := ⟨b, off + i * 2, none⟩) h1).trans h3, u, (hb.cell (p := ⟨b, off + i * 2 + 1, none⟩) h1).trans h4, ri_below h5 hb⟩
def fewO (ops : List (Int × List Int)) : Bool := decide (ops.length ≤ 80) && ops.all fun x => decide (x.2.length ≤ 20)
theorem fewO_bad {ops : List (Int × List Int)} (k : Nat) (h : k < ops.length) (hb : 20 < (ops[k]).2.length) : fewO ops = false := by
  unfold fewO
  rw [Bool.and_eq_false_iff]
  right
  rw [List.all_eq_false]
  exact ⟨ops[k], List.getElem_mem h, by simp; omega⟩
theorem fewO_good {ops : List (Int × List Int)} (h : ∀ k (h : k < ops.length), k < ops.length → (ops[k]).2.length ≤ 20) : fewO ops = decide (ops.length ≤ 80) := by
  unfold fewO
  rw [show (ops.all fun x => decide (x.2.length ≤ 20)) = true from List.all_eq_true.2 fun b hb => by
    obtain ⟨k, hk, rfl⟩ := List.getElem_of_mem hb
    have := h k hk hk
    simpa using this]
  simp
theorem fewO_few {ops : List (Int × List Int)} (h : fewO ops = true) : ops.length ≤ 80 ∧ ∀ i (h : i < ops.length), (ops[i]).2.length ≤ 20 := by
  unfold fewO at h
  simp only [Bool.and_eq_true, decide_eq_true_eq, List.all_eq_true] at h
  exact ⟨h.1, fun i hi => h.2 _ (List.getElem_mem hi)⟩
set_option maxHeartbeats 3200000 in
set_option maxRecDepth 100000 in
theorem lfew16 (v : Value) (ops : List (Int × List Int)) (w : World) (hv : ROps w v ops) (hmax : ops.length ≤ maxLen) : Calls Try.prog 26 #[v] w fun e w' => e = .returned (.bool (fewO ops)) ∧ Below w.heap.size w w' := by
  obtain ⟨p, cap, rfl⟩ := rops_form hv
  have hbad := @fewO_bad ops
  have hgood := @fewO_good ops
  unfold maxLen at hmax
  obtain ⟨E, hE⟩ : ∃ E, fewO ops = E := ⟨_, rfl⟩
  rw [hE] at hbad hgood ⊢
  replace hv := Lib.hid hv
  replace hbad := Lib.hid hbad
  replace hgood := Lib.hid hgood
  clear hE
  go_enter Try.func26, Try.ntmps26
  go_wp2_with fail
  go_loopg [3] ops.length (fun g vi wr => ∃ k : Nat, k ≤ ops.length ∧ vi = .int .i64 k ∧ g = ops.length - k ∧ wr = w ∧ ∀ j (h : j < ops.length), j < k → (ops[j]).2.length ≤ 20)
  case atStart => exact ⟨0, Nat.zero_le _, rfl, rfl, rfl, fun j h hj => by omega⟩
  case round =>
    obtain ⟨k, hk, rfl, rfl, rfl, hok⟩ := hrel
    by_cases hlt : k < ops.length
    · have hlt' : (k : Int) < (ops.length : Int) := by omega
      obtain ⟨b, off, rfl, hb, hcell⟩ := rops_at hv.out (by omega)
      obtain ⟨_, u, hu, hru⟩ := hcell k hlt
      obtain ⟨pk, ck, rfl⟩ := ri_form hru
      have hbk := hbad.out k hlt
      have hnext : (ops[k]).2.length ≤ 20 → ∀ j (h : j < ops.length), j < k + 1 → (ops[j]).2.length ≤ 20 := fun h0 j h hj => by
        by_cases e : j = k
        · subst e; exact h0
        · exact hok j h (by omega)
      obtain ⟨m, hm⟩ : ∃ m, (ops[k]).2.length = m := ⟨_, rfl⟩
      rw [hm] at hu hbk hnext
      replace hnext := Lib.hid hnext
      replace hok := Lib.hid hok
      clear hcell hru hm
      by_cases h2 : m ≤ 20
      · have n2 : ¬ 20 < m := by omega
        have n4 : ¬ (20 : Int) < (m : Int) := by omega
        replace hbk := Lib.hid hbk
        go_wp2_with fail
        go_roundg (ops.length - (k + 1))
        case measure => omega
        case rel => exact ⟨k + 1, by omega, by go_num, rfl, rfl, hnext.out h2⟩
      · have n2 : 20 < m := by omega
        have n4 : (20 : Int) < (m : Int) := by omega
        have hno := Lib.hid (hbk n2)
        clear h2 hbk
        go_wp2_with fail
        go_ret
        exact ⟨ret_bool hno.out.symm, Below.refl _ _⟩
    · obtain rfl : k = ops.length := by omega
      have hlt' : decide ((ops.length : Int) < (ops.length : Int)) = false := by simp
      have hres := Lib.hid (hgood.out fun k h _ => hok k h h)
      replace hok := Lib.hid hok
      obtain ⟨D, hD⟩ : ∃ D, decide (ops.length ≤ 80) = D := ⟨_, rfl⟩
      have hD2 : decide ((ops.length : Int) ≤ 80) = D := by rw [← hD]; exact decide_eq_decide.2 (by omega)
      rw [hD] at hres
      go_wp2_with fail
      go_ret
      exact ⟨ret_bool hres.out.symm, Below.refl _ _⟩
end Go.Proofs.Ytcbfgcmdlfediaa
