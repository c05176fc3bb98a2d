/- Texts that stand together. -/
import Derived.Test.YtiidjkhkcckmkaaGreatDoorMatP
/- Layer 14, plain mathematics: what the tables say of each other. -/
namespace Go.Proofs.YtiidjkhkcckmkaaGreatDoor.Flw
set_option linter.unusedSimpArgs false
set_option linter.unusedVariables false
open Prp (mrkB cccI drpB gcbI)
open Dcp (fullI)
open Par (joinI)
open Can Nfk Fol
def valuesI (b : List UInt8) : List Int := nfkcI (leftI (nfkcI (Dec.allL b)))
def clustersI (b : List UInt8) : List (List Int) := Sgm.allI (valuesI b)
def frameI (b : List UInt8) : List UInt8 := (clustersI b).flatMap Frm.putF
def Good (l : List Int) : Prop := ∀ x ∈ l, Dec.goodB x = true
theorem T_good : ∀ s ∈ Dcp.T, ∀ x ∈ s.2, Dec.goodB x = true ∧ drpB x = false := by decide +kernel
theorem P_good : ∀ s ∈ Par.T, Dec.goodB s.2.2 = true ∧ drpB s.2.2 = false := by decide +kernel
theorem good_of {r : Int} (h0 : 0 ≤ r) (h1 : r < 0xD800) : Dec.goodB r = true := by
  unfold Dec.goodB
  simp
  omega
theorem full_good {r : Int} (h : Dec.goodB r = true) : ∀ x ∈ fullI r, Dec.goodB x = true := by
  intro x hx
  by_cases h1 : 0xAC00 ≤ r ∧ r ≤ 0xD7A3
  · rw [Dcp.full_syl h1] at hx
    have := Dcp.syl_parts (by omega) (by omega) x hx
    exact good_of (by omega) (by omega)
  by_cases h2 : 0xFF01 ≤ r ∧ r ≤ 0xFF5E
  · rw [Dcp.full_wide h2] at hx
    obtain rfl : x = r - 0xFEE0 := by simpa using hx
    exact good_of (by omega) (by omega)
  cases e : Lk.look Dcp.T r with
  | none =>
    have hf : fullI r = [r] := by unfold fullI; rw [if_neg h1, if_neg h2, e]; rfl
    rw [hf] at hx
    obtain rfl : x = r := by simpa using hx
    exact h
  | some p =>
    have hf : fullI r = p := by unfold fullI; rw [if_neg h1, if_neg h2, e]; rfl
    rw [hf] at hx
    exact (T_good _ (Lk.look_mem e) x hx).1
theorem join_good {h r v : Int} (e : joinI h r = some v) : Dec.goodB v = true ∧ drpB v = false := by
  by_cases h1 : Par.LV h r
  · have ev : v = 0xAC00 + ((h - 0x1100) * 21 + (r - 0x1161)) * 28 := by
      unfold joinI at e
      rw [if_pos h1] at e
      exact (Option.some.inj e).symm
    obtain ⟨a1, a2, b1, b2⟩ := h1
    exact ⟨good_of (by omega) (by omega), (Prp.syl (by omega) (by omega)).2.1⟩
  by_cases h2 : Par.LVT h r
  · have ev : v = h + r - 0x11A7 := by
      unfold joinI at e
      rw [if_neg h1, if_pos h2] at e
      exact (Option.some.inj e).symm
    obtain ⟨a1, a2, a3, b1, b2⟩ := h2
    exact ⟨good_of (by omega) (by omega), (Prp.syl (by omega) (by omega)).2.1⟩
  · unfold joinI at e
    rw [if_neg h1, if_neg h2] at e
    exact P_good _ (Par.lookJ_mem e)
/-- what is put together has what was, or what two of it are together -/
theorem putR_mem {r : Int} {R R' : List Int} (e : putR (fun h => joinI h r) R = some R') : ∀ x ∈ R', x ∈ R ∨ ∃ h, joinI h r = some x := by
  induction R generalizing R' with
  | nil => cases e
  | cons y t ih =>
    unfold putR at e
    split at e
    · cases e2 : putR (fun h => joinI h r) t with
      | none => rw [e2] at e; cases e
      | some w =>
        rw [e2] at e
        obtain rfl := Option.some.inj e
        intro x hx
        rcases List.mem_cons.1 hx with rfl | hx
        · exact .inl (List.mem_cons_self ..)
        · exact (ih e2 x hx).imp (List.mem_cons_of_mem _) id
    · cases e2 : joinI y r with
      | none => rw [e2] at e; cases e
      | some v =>
        rw [e2] at e
        obtain rfl := Option.some.inj e
        intro x hx
        rcases List.mem_cons.1 hx with rfl | hx
        · exact .inr ⟨y, e2⟩
        · exact .inl (List.mem_cons_of_mem _ hx)
theorem compR_all (P : Int → Prop) (hj : ∀ h r v, joinI h r = some v → P v) (l R : List Int) (hl : ∀ x ∈ l, P x) (hR : ∀ x ∈ R, P x) : ∀ x ∈ compR l R, P x := by
  induction l generalizing R with
  | nil => exact hR
  | cons r t ih =>
    rw [compR_cons]
    refine ih (cstep R r) (fun x hx => hl x (List.mem_cons_of_mem _ hx)) ?_
    have told : ∀ x ∈ r :: R, P x := by
      intro x hx
      rcases List.mem_cons.1 hx with rfl | hx
      · exact hl _ (List.mem_cons_self ..)
      · exact hR x hx
    unfold cstep
    split
    · exact told
    · cases e : putR (fun h => joinI h r) R with
      | none => exact told
      | some R' =>
        intro x hx
        rcases putR_mem e x hx with h | ⟨h, hh⟩
        · exact hR x h
        · exact hj _ _ _ hh
theorem compose_all (P : Int → Prop) (hj : ∀ h r v, joinI h r = some v → P v) (l : List Int) (hl : ∀ x ∈ l, P x) : ∀ x ∈ composeI l, P x := by
  intro x hx
  exact compR_all P hj l [] hl (fun _ h => by cases h) x (List.mem_reverse.1 hx)
theorem made_good {l : List Int} (h : Good l) : Good (madeI l) := by
  intro x hx
  obtain ⟨y, hy, hxy⟩ := List.mem_flatMap.1 hx
  exact full_good (h y hy) x hxy
theorem nfkd_good {l : List Int} (h : Good l) : Good (nfkdI l) := by
  intro x hx
  rcases safe_mem (order_mem hx) with hx | rfl
  · exact made_good h x hx
  · decide
theorem nfkc_good {l : List Int} (h : Good l) : Good (nfkcI l) := compose_all _ (fun _ _ _ e => (join_good e).1) _ (nfkd_good h)
theorem left_good {l : List Int} (h : Good l) : Good (leftI l) := by
  intro x hx
  have hx := (List.mem_filter.1 hx).1
  obtain ⟨y, hy, hxy⟩ := List.mem_flatMap.1 hx
  exact Cas.fold_good (h y hy) x hxy
theorem all_good (b : List UInt8) : Good (Dec.allL b) := fun x hx => Dec.all_good b x hx
theorem values_good (b : List UInt8) : Good (valuesI b) := nfkc_good (left_good (nfkc_good (all_good b)))
/-- FlowFrames -/
theorem clusters_flat (b : List UInt8) : (clustersI b).flatten = valuesI b := (Sgm.all_join _).1
theorem clusters_len (b : List UInt8) : ∀ c ∈ clustersI b, 1 ≤ c.length ∧ c.length ≤ 32 := (Sgm.all_join _).2
theorem clusters_good (b : List UInt8) : ∀ c ∈ clustersI b, Good c := by
  intro c hc x hx
  refine values_good b x ?_
  rw [← clusters_flat]
  exact List.mem_flatten.2 ⟨c, hc, hx⟩
/-- values that are in the form: made of nothing else, or two values together -/
def Whole (w : Int) : Prop := fullI w = [w] ∨ ∃ h r, joinI h r = some w
def fixedB (q : Int) : Bool := decide (Cas.foldI q = [q])
/-- of each row: if all that it is made of stays, what it is folded to is made of the same -/
def rowB (s : Int × List Int) : Bool := !((fullI s.1).all fixedB) || decide (madeI s.2 = fullI s.1)
end Go.Proofs.YtiidjkhkcckmkaaGreatDoor.Flw

