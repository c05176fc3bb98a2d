/- The contract of the verifier's Same of truth values (layer 11); written by a program off Sa. -/
import Derived.Test.YtbkgjbpnogcjeaaG3
import Derived.Test.YtbkgjbpnogcjeaaBasP
import Derived.LoopTactic
namespace Go.Proofs.Ytbkgjbpnogcjeaa
set_option linter.unusedSimpArgs false
set_option linter.unusedVariables false
open Go.RowKit Go.Lib

/-- are lists the same? -/
def sameBT (a b : List Bool) : Bool := decide (a = b)

def SameRelT (w : World) (l m : List Bool) (k : Nat) (wr : World) : Prop := l.take k = m.take k ∧ ∃ n, wr = w.drewN n

theorem take_eq_succT {l m : List Bool} {k : Nat} (h1 : k < l.length) (h2 : k < m.length) (h : l.take k = m.take k) (hx : l[k] = m[k]) : l.take (k + 1) = m.take (k + 1) := by
  rw [List.take_succ_eq_append_getElem h1, List.take_succ_eq_append_getElem h2, h, hx]

set_option maxHeartbeats 800000 in
theorem same_someT (b1 o1 c1 b2 o2 c2 : Nat) (l m : List Bool) (w : World) (hl : l.length ≤ 100000) (hlm : l.length = m.length)
    (h1 : ∀ i (h : i < l.length), w.cell? ⟨b1, o1 + i, none⟩ = some (.bool l[i])) (h2 : ∀ i (h : i < m.length), w.cell? ⟨b2, o2 + i, none⟩ = some (.bool m[i])) :
    Calls Try.prog 23 #[.slice (some ⟨b1, o1, none⟩) l.length c1, .slice (some ⟨b2, o2, none⟩) m.length c2] w fun e w' => e = .returned (.bool (sameBT l m)) ∧ ∃ n, w' = w.drewN n := by
  have e1 := beq_nat_int hlm
  have e3 := bne_nat_int' hlm
  have h1 := Lib.hid h1
  have h2 := Lib.hid h2
  have hlm' := Lib.hid hlm
  clear hlm
  go_enter Try.func23, Try.ntmps23
  go_wp2_with fail
  go_loopw [5] (fun i wr => ∃ k : Nat, k ≤ l.length ∧ i = .int .i64 k ∧ SameRelT w l m k wr) (fun i _ => l.length - (RowKit.intOf i).toNat)
  case atStart => exact ⟨0, Nat.zero_le _, rfl, rfl, 0, rfl⟩
  case round =>
    obtain ⟨k, hk, rfl, hr⟩ := hrel
    obtain ⟨hr0, n, rfl⟩ := hr
    have hr0 := Lib.hid hr0
    by_cases hlt : k < l.length
    · have hlt2 : k < m.length := by have := hlm'.out; omega
      obtain ⟨x, hx⟩ : ∃ x, l[k] = x := ⟨_, rfl⟩
      obtain ⟨y, hy⟩ : ∃ y, m[k] = y := ⟨_, rfl⟩
      have hc1 : (w.drewN n).cell? ⟨b1, o1 + k, none⟩ = some (.bool x) := by rw [← hx]; exact h1.out k hlt
      have hc2 : (w.drewN n).cell? ⟨b2, o2 + k, none⟩ = some (.bool y) := by rw [← hy]; exact h2.out k hlt2
      have hx := Lib.hid hx
      have hy := Lib.hid hy
      have hi1 : (k : Int) < (l.length : Int) := by omega
      have hi2 : (k : Int) < (m.length : Int) := by omega
      by_cases hxy : x = y
      · have f1 : (x == y) = true := beq_iff_eq.2 hxy
        have f2 : (x != y) = false := by simp [hxy]
        have hst := Lib.hid (take_eq_succT hlt hlt2 hr0.out (hx.out.trans (hxy.trans hy.out.symm)))
        clear hxy
        go_wp2_with fail
        go_quiet (fail)
        go_wp2_with fail
        go_roundw
        case rel => exact ⟨k + 1, by omega, by go_num, hst.out, _, by first | rfl | exact World.drewN_drewN _ _ _⟩
        case measure => simp [RowKit.intOf]; omega
      · have f1 : (x == y) = false := beq_eq_false_iff_ne.2 hxy
        have f2 : (x != y) = true := by simp [hxy]
        have hst : sameBT l m = false := by
          unfold sameBT
          refine decide_eq_false fun e => hxy ?_
          subst e
          exact hx.out.symm.trans hy.out
        have hst := Lib.hid hst
        clear hxy
        go_wp2_with fail
        go_quiet (fail)
        go_wp2_with fail
        go_ret
        exact ⟨ret_bool hst.out.symm, _, by first | rfl | exact World.drewN_drewN _ _ _⟩
    · have hst : sameBT l m = true := by
        unfold sameBT
        have h0 := hr0.out
        have hk2 : k = l.length := by omega
        subst hk2
        rw [List.take_length, List.take_of_length_le (by have := hlm'.out; omega)] at h0
        exact decide_eq_true h0
      have hst := Lib.hid hst
      go_wp2_with fail
      go_ret
      exact ⟨ret_bool hst.out.symm, n, rfl⟩

set_option maxHeartbeats 800000 in
/-- lists of two lengths -/
theorem same_lensT (v1 v2 : Option Addr) (n m c1 c2 : Nat) (w : World) (hlm : ¬ n = m) :
    Calls Try.prog 23 #[.slice v1 n c1, .slice v2 m c2] w fun e w' => e = .returned (.bool false) ∧ w = w' := by
  have e1 := bne_nat_int hlm
  have e3 : ((n : Int) != (m : Int)) = true := by simp; omega
  clear hlm
  go_enter Try.func23, Try.ntmps23
  go_wp2_with fail
  go_ret
  exact ⟨rfl, rfl⟩

set_option maxHeartbeats 800000 in
/-- two empty lists -/
theorem same_emptyT (v1 v2 : Option Addr) (c1 c2 : Nat) (w : World) :
    Calls Try.prog 23 #[.slice v1 0 c1, .slice v2 0 c2] w fun e w' => e = .returned (.bool true) ∧ w = w' := by
  go_enter Try.func23, Try.ntmps23
  go_wp2_with fail
  refine wp_loop_rounds 1 ?_
  rw [rounds_succ]
  go_wp2_with fail
  go_ret
  exact ⟨rfl, rfl⟩

/-- Same, of whatever lists -/
theorem same_anyT (v1 v2 : Value) (l m : List Bool) (w : World) (hl : l.length ≤ 100000) (h1 : RT w v1 l) (h2 : RT w v2 m) :
    Calls Try.prog 23 #[v1, v2] w fun e w' => e = .returned (.bool (sameBT l m)) ∧ ∃ n, w' = w.drewN n := by
  have key : ∀ (a1 a2 : Option Addr) (k1 k2 : Nat), l.length ≠ m.length → Calls Try.prog 23 #[.slice a1 l.length k1, .slice a2 m.length k2] w fun e w' => e = .returned (.bool (sameBT l m)) ∧ ∃ n, w' = w.drewN n := by
    intro a1 a2 k1 k2 hne
    have : sameBT l m = false := decide_eq_false fun e => hne (by rw [e])
    rw [this]
    exact (same_lensT a1 a2 _ _ k1 k2 w hne).mono fun e w' ⟨p, q⟩ => ⟨p, 0, q.symm⟩
  obtain ⟨p1, c1, rfl⟩ := rt_form h1
  obtain ⟨p2, c2, rfl⟩ := rt_form h2
  by_cases hlm : l.length = m.length
  · cases l with
    | nil =>
      cases m with
      | nil => exact (same_emptyT p1 p2 c1 c2 w).mono fun e w' ⟨p, q⟩ => ⟨p, 0, q.symm⟩
      | cons y m => simp at hlm
    | cons x l =>
      obtain ⟨b1, o1, rfl, _, g1⟩ := rt_at h1 (by simp)
      obtain ⟨b2, o2, rfl, _, g2⟩ := rt_at h2 (by rw [← hlm]; simp)
      exact same_someT b1 o1 c1 b2 o2 c2 (x :: l) m w hl hlm g1 g2
  · exact key _ _ c1 c2 hlm

end Go.Proofs.Ytbkgjbpnogcjeaa
