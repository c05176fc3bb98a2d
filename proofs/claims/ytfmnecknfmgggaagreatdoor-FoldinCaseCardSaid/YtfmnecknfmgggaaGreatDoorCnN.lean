/- Layer 7, plain mathematics for the statements: neighbours in order, one value and two marks, numbers that an int holds. -/
import Derived.Test.YtfmnecknfmgggaaGreatDoorMthP
import Derived.Test.YtfmnecknfmgggaaGreatDoorBasP
namespace Go.Proofs.YtfmnecknfmgggaaGreatDoor.Can
set_option linter.unusedSimpArgs false
set_option linter.unusedVariables false
open Prp (mrkB cccI)
open Dcp (fullI)
open Par (joinI)

/-- in what is in order, of two marks one behind the other the second one's class is no lower -/
theorem adj_at {l : List Int} (h : sortedB l = true) (i : Nat) (hi : i + 1 < l.length) (h0 : mrkB l[i] = true) (h1 : mrkB l[i + 1] = true) : cccI l[i] ≤ cccI l[i + 1] := by
  have hs : l = l.take i ++ (l[i] :: l[i + 1] :: l.drop (i + 2)) := by
    rw [← List.drop_eq_getElem_cons, ← List.drop_eq_getElem_cons, List.take_append_drop]
  have hr : l.reverse = (l.drop (i + 2)).reverse ++ (l[i + 1] :: l[i] :: (l.take i).reverse) := by
    conv => lhs; rw [hs]
    simp
  unfold sortedB at h
  rw [hr] at h
  exact (adj_cons.1 (adj_suffix h)).1 _ _ rfl h1 h0

theorem join_bd {a b x : Int} (h : joinI a b = some x) : 0 ≤ x ∧ x ≤ 9223372036854775807 := by
  refine ⟨by have := Par.join_pos h; omega, ?_⟩
  unfold joinI at h
  by_cases h1 : Par.LV a b
  · rw [if_pos h1] at h
    unfold Par.LV at h1
    have e : x = 0xAC00 + ((a - 0x1100) * 21 + (b - 0x1161)) * 28 := by simpa using h.symm
    omega
  rw [if_neg h1] at h
  by_cases h2 : Par.LVT a b
  · rw [if_pos h2] at h
    unfold Par.LVT at h2
    have e : x = a + b - 0x11A7 := by simpa using h.symm
    omega
  · rw [if_neg h2] at h
    have hf := Par.rows_far _ (Par.lookJ_mem h)
    dsimp only at hf
    omega

theorem wf_putR {r : Int} {R R' : List Int} (hR : WfI R) (h : putR (fun h => joinI h r) R = some R') : WfI R' := by
  induction R generalizing R' with
  | nil => cases h
  | cons x t ih =>
    unfold putR at h
    split at h
    · cases e : putR (fun h => joinI h r) t with
      | none => rw [e] at h; cases h
      | some u =>
        rw [e] at h
        obtain rfl : x :: u = R' := by simpa using h
        exact wfI_cons (hR x (List.mem_cons_self ..)) (ih (fun y hy => hR y (List.mem_cons_of_mem _ hy)) e)
    · cases e : joinI x r with
      | none => rw [e] at h; cases h
      | some u =>
        rw [e] at h
        obtain rfl : u :: t = R' := by simpa using h
        have := join_bd e
        exact wfI_cons (by omega) (fun y hy => hR y (List.mem_cons_of_mem _ hy))

theorem wf_cstep {R : List Int} {r : Int} (hR : WfI R) (hr : -9223372036854775808 ≤ r ∧ r ≤ 9223372036854775807) : WfI (cstep R r) := by
  unfold cstep
  split
  · exact wfI_cons hr hR
  · cases e : putR (fun h => joinI h r) R with
    | none => exact wfI_cons hr hR
    | some u => exact wf_putR hR e

theorem wf_compR {l : List Int} : ∀ {R : List Int}, WfI R → WfI l → WfI (compR l R) := by
  induction l with
  | nil => intro R h _; exact h
  | cons x t ih => intro R h hl; rw [compR_cons]; exact ih (wf_cstep h (hl x (List.mem_cons_self ..))) (fun y hy => hl y (List.mem_cons_of_mem _ hy))

theorem wf_compose {l : List Int} (h : WfI l) : WfI (composeI l) := fun x hx => wf_compR wfI_nil h x (List.mem_reverse.1 hx)

theorem rows_bd : ∀ s ∈ Dcp.T, ∀ x ∈ s.2, -9223372036854775808 ≤ x ∧ x ≤ 9223372036854775807 := by decide +kernel
theorem wf_full {r : Int} (hr : -9223372036854775808 ≤ r ∧ r ≤ 9223372036854775807) : WfI (fullI r) := by
  by_cases h1 : 0xAC00 ≤ r ∧ r ≤ 0xD7A3
  · rw [Dcp.full_syl h1]
    intro x hx
    have := Dcp.syl_parts (by omega) (by omega) x hx
    omega
  by_cases h2 : 0xFF01 ≤ r ∧ r ≤ 0xFF5E
  · rw [Dcp.full_wide h2]
    exact wfI_cons (by omega) wfI_nil
  unfold fullI
  rw [if_neg h1, if_neg h2]
  cases e : Lk.look Dcp.T r with
  | none => exact wfI_cons hr wfI_nil
  | some p => exact fun x hx => rows_bd _ (Lk.look_mem e) x hx
theorem wf_made {l : List Int} (h : WfI l) : WfI (l.flatMap fullI) := by
  intro x hx
  obtain ⟨y, hy, hxy⟩ := List.mem_flatMap.1 hx
  exact wf_full (h y hy) x hxy
theorem made_len (l : List Int) : (l.flatMap fullI).length ≤ 4 * l.length := by
  induction l with
  | nil => simp
  | cons x t ih =>
    rw [List.flatMap_cons, List.length_append, List.length_cons]
    have := (Dcp.full_len x).2
    omega

/-- one value and two marks -/
theorem three {a m n : Int} (ha : mrkB a = false) (hm : mrkB m = true) (hn : mrkB n = true) : composeI [a, m, n] =
    match joinI a m with
    | some x => (match joinI x n with | some y => [y] | none => [x, n])
    | none => if cccI n ≤ cccI m then [a, m, n] else (match joinI a n with | some y => [y, m] | none => [a, m, n]) := by
  have e1 : cstep [] a = [a] := by simp [cstep, blockR, putR]
  have hb : ∀ x r, mrkB x = false → blockR r [x] = false := fun x r h => by simp [blockR, h]
  have hp : ∀ (f : Int → Option Int) x, mrkB x = false → putR f [x] = (f x).map (· :: []) := fun f x h => by simp [putR, h]
  unfold composeI
  rw [compR_cons, e1, compR_cons]
  have e2 : cstep [a] m = ((joinI a m).map (· :: [])).getD [m, a] := by
    unfold cstep
    rw [hb a m ha, if_neg (by simp), hp _ a ha]
  cases hj : joinI a m with
  | some x =>
    have hx := (join_facts hj).1
    rw [e2, hj]
    show (compR [n] [x]).reverse = _
    rw [compR_cons]
    have e3 : cstep [x] n = ((joinI x n).map (· :: [])).getD [n, x] := by
      unfold cstep
      rw [hb x n hx, if_neg (by simp), hp _ x hx]
    rw [e3]
    dsimp only
    cases joinI x n <;> rfl
  | none =>
    rw [e2, hj]
    show (compR [n] [m, a]).reverse = _
    rw [compR_cons]
    by_cases hc : cccI n ≤ cccI m
    · have e3 : cstep [m, a] n = [n, m, a] := by simp [cstep, blockR, hm, hc]
      rw [e3, if_pos hc]
      rfl
    · have e3 : cstep [m, a] n = ((joinI a n).map (fun y => [m, y])).getD [n, m, a] := by
        unfold cstep
        have h0 : blockR n [m, a] = false := by simp [blockR, hm, hc]
        rw [h0, if_neg (by simp)]
        have h1 : putR (fun h => joinI h n) [m, a] = (joinI a n).map (fun y => [m, y]) := by
          simp [putR, hm, ha]
          cases joinI a n <;> rfl
        rw [h1]
      rw [e3]
      dsimp only
      rw [if_neg hc]
      cases joinI a n <;> rfl

/-- of each class the values in their order -/
def classI (l : List Int) (n : Nat) : List Int := (List.range n).flatMap fun (c : Nat) => l.filter fun x => decide (cccI x = (c : Int))
theorem class_succ (l : List Int) (n : Nat) : classI l (n + 1) = classI l n ++ l.filter fun x => decide (cccI x = (n : Int)) := by
  unfold classI
  rw [List.range_succ, List.flatMap_append]
  simp
theorem class_order (l : List Int) (n : Nat) : classI (orderI l) n = classI l n := by
  unfold classI
  congr 1
  funext c
  exact orderI_filter _ _
theorem class_len (l : List Int) (n : Nat) : (classI l n).length ≤ n * l.length := by
  induction n with
  | zero => simp [classI]
  | succ n ih =>
    rw [class_succ, List.length_append, Nat.succ_mul]
    exact Nat.add_le_add ih (List.length_filter_le _ _)

end Go.Proofs.YtfmnecknfmgggaaGreatDoor.Can
