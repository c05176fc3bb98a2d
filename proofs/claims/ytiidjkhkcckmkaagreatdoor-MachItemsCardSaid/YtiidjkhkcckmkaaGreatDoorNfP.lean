/- Texts that stand together. -/
import Derived.Test.YtiidjkhkcckmkaaGreatDoorMthP
import Derived.Test.YtiidjkhkcckmkaaGreatDoorBasP
import Derived.Test.YtiidjkhkcckmkaaGreatDoorMatP
import Derived.Test.YtiidjkhkcckmkaaGreatDoorCnP
/- Layer 7, plain mathematics for the statements: neighbours in order, one value and two marks, numbers that an int holds. -/
namespace Go.Proofs.YtiidjkhkcckmkaaGreatDoor.Can
set_option linter.unusedSimpArgs false
set_option linter.unusedVariables false
open Prp (mrkB cccI)
open Dcp (fullI)
open Par (joinI)
theorem join_bd {a b x : Int} (h : joinI a b = some x) : 0 ≤ x ∧ x ≤ 9223372036854775807 := by
  refine ⟨by have := Par.join_pos h; omega, ?_⟩
  unfold joinI at h
  by_cases h1 : Par.LV a b
  · rw [if_pos h1] at h
    unfold Par.LV at h1
    have e : x = 0xAC00 + ((a - 0x1100) * 21 + (b - 0x1161)) * 28 := by simpa using h.symm
    omega
  rw [if_neg h1] at h
  by_cases h2 : Par.LVT a b
  · rw [if_pos h2] at h
    unfold Par.LVT at h2
    have e : x = a + b - 0x11A7 := by simpa using h.symm
    omega
  · rw [if_neg h2] at h
    have hf := Par.rows_far _ (Par.lookJ_mem h)
    dsimp only at hf
    omega
theorem wf_putR {r : Int} {R R' : List Int} (hR : WfI R) (h : putR (fun h => joinI h r) R = some R') : WfI R' := by
  induction R generalizing R' with
  | nil => cases h
  | cons x t ih =>
    unfold putR at h
    split at h
    · cases e : putR (fun h => joinI h r) t with
      | none => rw [e] at h; cases h
      | some u =>
        rw [e] at h
        obtain rfl : x :: u = R' := by simpa using h
        exact wfI_cons (hR x (List.mem_cons_self ..)) (ih (fun y hy => hR y (List.mem_cons_of_mem _ hy)) e)
    · cases e : joinI x r with
      | none => rw [e] at h; cases h
      | some u =>
        rw [e] at h
        obtain rfl : u :: t = R' := by simpa using h
        have := join_bd e
        exact wfI_cons (by omega) (fun y hy => hR y (List.mem_cons_of_mem _ hy))
theorem wf_cstep {R : List Int} {r : Int} (hR : WfI R) (hr : -9223372036854775808 ≤ r ∧ r ≤ 9223372036854775807) : WfI (cstep R r) := by
  unfold cstep
  split
  · exact wfI_cons hr hR
  · cases e : putR (fun h => joinI h r) R with
    | none => exact wfI_cons hr hR
    | some u => exact wf_putR hR e
theorem wf_compR {l : List Int} : ∀ {R : List Int}, WfI R → WfI l → WfI (compR l R) := by
  induction l with
  | nil => intro R h _; exact h
  | cons x t ih => intro R h hl; rw [compR_cons]; exact ih (wf_cstep h (hl x (List.mem_cons_self ..))) (fun y hy => hl y (List.mem_cons_of_mem _ hy))
theorem wf_compose {l : List Int} (h : WfI l) : WfI (composeI l) := fun x hx => wf_compR wfI_nil h x (List.mem_reverse.1 hx)
theorem rows_bd : ∀ s ∈ Dcp.T, ∀ x ∈ s.2, -9223372036854775808 ≤ x ∧ x ≤ 9223372036854775807 := by decide +kernel
theorem wf_full {r : Int} (hr : -9223372036854775808 ≤ r ∧ r ≤ 9223372036854775807) : WfI (fullI r) := by
  by_cases h1 : 0xAC00 ≤ r ∧ r ≤ 0xD7A3
  · rw [Dcp.full_syl h1]
    intro x hx
    have := Dcp.syl_parts (by omega) (by omega) x hx
    omega
  by_cases h2 : 0xFF01 ≤ r ∧ r ≤ 0xFF5E
  · rw [Dcp.full_wide h2]
    exact wfI_cons (by omega) wfI_nil
  unfold fullI
  rw [if_neg h1, if_neg h2]
  cases e : Lk.look Dcp.T r with
  | none => exact wfI_cons hr wfI_nil
  | some p => exact fun x hx => rows_bd _ (Lk.look_mem e) x hx
theorem wf_made {l : List Int} (h : WfI l) : WfI (l.flatMap fullI) := by
  intro x hx
  obtain ⟨y, hy, hxy⟩ := List.mem_flatMap.1 hx
  exact wf_full (h y hy) x hxy
theorem made_len (l : List Int) : (l.flatMap fullI).length ≤ 4 * l.length := by
  induction l with
  | nil => simp
  | cons x t ih =>
    rw [List.flatMap_cons, List.length_append, List.length_cons]
    have := (Dcp.full_len x).2
    omega
end Go.Proofs.YtiidjkhkcckmkaaGreatDoor.Can

/- Layer 8: what is asked of the code's functions; the document's example. -/
namespace Go.Proofs.YtiidjkhkcckmkaaGreatDoor
set_option linter.unusedSimpArgs false
set_option linter.unusedVariables false
open Go.RowKit Go.Lib
theorem wf_madeN {l : List Int} (h : WfI l) : WfI (Nfk.madeI l) := Can.wf_made h
theorem wf_safe {l : List Int} (h : WfI l) : WfI (Nfk.safeI l 0) := fun x hx => by
  rcases Nfk.safe_mem hx with h1 | rfl
  · exact h x h1
  · omega
theorem wf_nfkd {l : List Int} (h : WfI l) : WfI (Nfk.nfkdI l) := wf_order (wf_safe (wf_madeN h))
theorem wf_nfkc {l : List Int} (h : WfI l) : WfI (Nfk.nfkcI l) := Can.wf_compose (wf_nfkd h)
end Go.Proofs.YtiidjkhkcckmkaaGreatDoor

