/- Layer 7: the code's Marks and Compose. -/
import Derived.Test.YtkhjkodeolaemaaDoorCnQ
import Derived.Test.YtkhjkodeolaemaaDoorCnS
import Derived.Test.YtkhjkodeolaemaaDoorPaS
import Derived.Test.YtkhjkodeolaemaaDoorPrA2
import Derived.Test.YtkhjkodeolaemaaDoorK2
import Derived.Laws.MakeOwn
namespace Go.Proofs.YtkhjkodeolaemaaDoor
set_option linter.unusedSimpArgs false
set_option linter.unusedVariables false
open Go.RowKit Go.Lib

namespace Can
theorem runB_next (l : List Int) (k : Nat) (h : k < l.length) (n : Nat) : runB ((l.drop k).map Prp.mrkB) n = max (if Prp.mrkB l[k] = true then n + 1 else 0) (runB ((l.drop (k + 1)).map Prp.mrkB) (if Prp.mrkB l[k] = true then n + 1 else 0)) := by
  rw [List.drop_eq_getElem_cons h, List.map_cons, runB]
end Can

theorem markOf7 (r : Int) (c : Bool) (h : Prp.mrkB r = c) (w : World) : Calls Tryd.prog 18 #[.int .i64 r] w fun e w' => e = .returned (.bool c) ∧ Below w.heap.size w w' := h ▸ mark_any r w

set_option maxHeartbeats 1600000 in
theorem marksC : MarksC := by
  intro v l w hl hv _
  obtain ⟨p, cap, rfl⟩ := ri_form hv
  replace hv := Lib.hid hv
  obtain ⟨M, hM⟩ : ∃ M, Can.marksI l = M := ⟨_, rfl⟩
  rw [hM]
  unfold Can.marksI at hM
  replace hM := Lib.hid hM
  go_enter Tryd.func14, Tryd.ntmps14
  go_wp2_with fail
  go_loopg [3, 4, 6, 9] l.length (fun g va vb vx vi wr => ∃ k a b : Nat, k ≤ l.length ∧ va = .int .i64 a ∧ vb = .int .i64 b ∧ vi = .int .i64 k ∧ g = l.length - k ∧ a ≤ k ∧ b ≤ k ∧ Hid (max a (Can.runB ((l.drop k).map Prp.mrkB) b) = M) ∧ Below w.heap.size w wr)
  case atStart => exact ⟨0, 0, 0, Nat.zero_le _, rfl, rfl, rfl, rfl, Nat.le_refl _, Nat.le_refl _, Lib.hid (by rw [List.drop_zero, Nat.zero_max]; exact hM.out), Below.refl _ _⟩
  case round =>
    obtain ⟨k, a, n, hk, rfl, rfl, rfl, rfl, hak, hnk, hrun, hbel⟩ := hrel
    by_cases hlt : k < l.length
    · have hlt' : (k : Int) < (l.length : Int) := by omega
      obtain ⟨b, off, rfl, hb, hcell⟩ := ri_at (ri_below hv.out hbel) (by omega)
      have hc := hcell k hlt
      have hstep := hrun.out
      rw [Can.runB_next l k hlt n] at hstep
      obtain ⟨x, hx⟩ : ∃ x, l[k] = x := ⟨_, rfl⟩
      rw [hx] at hc hstep
      cases hmb : Prp.mrkB x with
      | true =>
        rw [hmb] at hstep
        simp only [if_true] at hstep
        have hmx := Lib.hid (markOf7 x true hmb)
        replace hstep := Lib.hid hstep
        replace hbel := Lib.hid hbel
        clear hcell hx hmb hrun
        go_wp2_with (refine (hmx.out _).mono ?_; rintro e w2 ⟨rfl, hb2⟩; replace hb2 := Lib.hid (below_on hbel.out hb2))
        all_goals
          go_roundg (l.length - (k + 1))
          case measure => omega
          case rel => first
            | exact ⟨k + 1, a, n + 1, by omega, rfl, by go_num, by go_num, rfl, by omega, by omega, Lib.hid (by have := hstep.out; omega), hb2.out⟩
            | exact ⟨k + 1, n + 1, n + 1, by omega, by go_num, by go_num, by go_num, rfl, by omega, by omega, Lib.hid (by have := hstep.out; omega), hb2.out⟩
      | false =>
        rw [hmb] at hstep
        simp only [Bool.false_eq_true, if_false, Nat.zero_max] at hstep
        have hmx := Lib.hid (markOf7 x false hmb)
        replace hstep := Lib.hid hstep
        replace hbel := Lib.hid hbel
        clear hcell hx hmb hrun
        go_wp2_with (refine (hmx.out _).mono ?_; rintro e w2 ⟨rfl, hb2⟩; replace hb2 := Lib.hid (below_on hbel.out hb2))
        all_goals
          go_roundg (l.length - (k + 1))
          case measure => omega
          case rel => first
            | exact ⟨k + 1, a, 0, by omega, rfl, rfl, by go_num, rfl, by omega, by omega, Lib.hid (by have := hstep.out; omega), hb2.out⟩
            | exact ⟨k + 1, 0, 0, by omega, by go_num, rfl, by go_num, rfl, by omega, by omega, Lib.hid (by have := hstep.out; omega), hb2.out⟩
    · obtain rfl : k = l.length := by omega
      have hlt' : decide ((l.length : Int) < (l.length : Int)) = false := by simp
      rw [List.drop_length] at hrun
      have hfin : a = M := by have := hrun.out; simpa [Can.runB] using this
      subst hfin
      replace hrun := Lib.hid hrun
      replace hbel := Lib.hid hbel
      go_wp2_with fail
      go_ret
      exact ⟨rfl, hbel.out⟩

/-- where the head stands among what is told, and the class of what was told last -/
def Head (m : List Int) (H last : Int) : Prop :=
  ((H = -1 ∧ ∀ j (h : j < m.length), Prp.mrkB m[j] = true) ∨ ∃ k : Nat, ∃ hk : k < m.length, H = k ∧ Prp.mrkB m[k] = false ∧ ∀ j (h : j < m.length), k < j → Prp.mrkB m[j] = true) ∧ ∀ L, (hL : m.length = L + 1) → Prp.mrkB (m[L]'(by omega)) = true → last = Prp.cccI (m[L]'(by omega))

theorem head_mark {m : List Int} {H last : Int} (h : Head m H last) {x c : Int} (hx : Prp.mrkB x = true) (hc : Prp.cccI x = c) : Head (m ++ [x]) H c := by
  refine ⟨?_, fun L hL _ => ?_⟩
  · rcases h.1 with ⟨h1, h2⟩ | ⟨k, hk, h1, h2, h3⟩
    · refine .inl ⟨h1, fun j hj => ?_⟩
      rw [List.length_append, List.length_singleton] at hj
      by_cases e : j < m.length
      · rw [List.getElem_append_left e]; exact h2 j e
      · obtain rfl : j = m.length := by omega
        simpa using hx
    · refine .inr ⟨k, by simp; omega, h1, by rw [List.getElem_append_left hk]; exact h2, fun j hj hkj => ?_⟩
      rw [List.length_append, List.length_singleton] at hj
      by_cases e : j < m.length
      · rw [List.getElem_append_left e]; exact h3 j e hkj
      · obtain rfl : j = m.length := by omega
        simpa using hx
  · rw [List.length_append, List.length_singleton] at hL
    obtain rfl : L = m.length := by omega
    simpa using hc.symm
theorem head_new (m : List Int) {x last : Int} (hx : Prp.mrkB x = false) : Head (m ++ [x]) (m.length : Int) last := by
  refine ⟨.inr ⟨m.length, by simp, rfl, by simpa using hx, fun j hj hkj => ?_⟩, fun L hL h => ?_⟩
  · rw [List.length_append, List.length_singleton] at hj; omega
  · rw [List.length_append, List.length_singleton] at hL
    obtain rfl : L = m.length := by omega
    simp [hx] at h
theorem head_put {m : List Int} {last : Int} {k : Nat} (hk : k < m.length) (h : Head m (k : Int) last) {v : Int} (hv : Prp.mrkB v = false) : Head (m.set k v) (k : Int) last := by
  obtain ⟨h1, h4⟩ := h
  rcases h1 with ⟨h1, _⟩ | ⟨k', hk', h1, h2, h3⟩
  · omega
  · obtain rfl : k = k' := by omega
    refine ⟨.inr ⟨k, by simpa using hk, rfl, by simpa using hv, fun j hj hkj => ?_⟩, fun L hL h => ?_⟩
    · rw [List.length_set] at hj
      rw [List.getElem_set_ne (by omega)]
      exact h3 j hj hkj
    · rw [List.length_set] at hL
      by_cases e : k = L
      · subst e
        rw [List.getElem_set_self] at h
        rw [hv] at h
        cases h
      · rw [List.getElem_set_ne e] at h ⊢
        exact h4 L hL h
end Go.Proofs.YtkhjkodeolaemaaDoor
