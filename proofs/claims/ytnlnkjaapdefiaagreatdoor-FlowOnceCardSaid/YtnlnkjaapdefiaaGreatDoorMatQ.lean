/- Texts that stand together. -/
import Derived.Test.YtnlnkjaapdefiaaGreatDoorMatP
/- Layer 14, plain mathematics: what the tables say of each other. -/
namespace Go.Proofs.YtnlnkjaapdefiaaGreatDoor.Flw
set_option linter.unusedSimpArgs false
set_option linter.unusedVariables false
open Prp (mrkB cccI drpB gcbI)
open Dcp (fullI)
open Par (joinI)
open Can Nfk Fol
def valuesI (b : List UInt8) : List Int := nfkcI (leftI (nfkcI (Dec.allL b)))
def clustersI (b : List UInt8) : List (List Int) := Sgm.allI (valuesI b)
def frameI (b : List UInt8) : List UInt8 := (clustersI b).flatMap Frm.putF
def textsI (b : List UInt8) : List (List UInt8) := (clustersI b).map Dec.textL
def Good (l : List Int) : Prop := ∀ x ∈ l, Dec.goodB x = true
theorem T_good : ∀ s ∈ Dcp.T, ∀ x ∈ s.2, Dec.goodB x = true ∧ drpB x = false := by decide +kernel
theorem P_good : ∀ s ∈ Par.T, Dec.goodB s.2.2 = true ∧ drpB s.2.2 = false := by decide +kernel
theorem good_of {r : Int} (h0 : 0 ≤ r) (h1 : r < 0xD800) : Dec.goodB r = true := by
  unfold Dec.goodB
  simp
  omega
theorem full_good {r : Int} (h : Dec.goodB r = true) : ∀ x ∈ fullI r, Dec.goodB x = true := by
  intro x hx
  by_cases h1 : 0xAC00 ≤ r ∧ r ≤ 0xD7A3
  · rw [Dcp.full_syl h1] at hx
    have := Dcp.syl_parts (by omega) (by omega) x hx
    exact good_of (by omega) (by omega)
  by_cases h2 : 0xFF01 ≤ r ∧ r ≤ 0xFF5E
  · rw [Dcp.full_wide h2] at hx
    obtain rfl : x = r - 0xFEE0 := by simpa using hx
    exact good_of (by omega) (by omega)
  cases e : Lk.look Dcp.T r with
  | none =>
    have hf : fullI r = [r] := by unfold fullI; rw [if_neg h1, if_neg h2, e]; rfl
    rw [hf] at hx
    obtain rfl : x = r := by simpa using hx
    exact h
  | some p =>
    have hf : fullI r = p := by unfold fullI; rw [if_neg h1, if_neg h2, e]; rfl
    rw [hf] at hx
    exact (T_good _ (Lk.look_mem e) x hx).1
theorem join_good {h r v : Int} (e : joinI h r = some v) : Dec.goodB v = true ∧ drpB v = false := by
  by_cases h1 : Par.LV h r
  · have ev : v = 0xAC00 + ((h - 0x1100) * 21 + (r - 0x1161)) * 28 := by
      unfold joinI at e
      rw [if_pos h1] at e
      exact (Option.some.inj e).symm
    obtain ⟨a1, a2, b1, b2⟩ := h1
    exact ⟨good_of (by omega) (by omega), (Prp.syl (by omega) (by omega)).2.1⟩
  by_cases h2 : Par.LVT h r
  · have ev : v = h + r - 0x11A7 := by
      unfold joinI at e
      rw [if_neg h1, if_pos h2] at e
      exact (Option.some.inj e).symm
    obtain ⟨a1, a2, a3, b1, b2⟩ := h2
    exact ⟨good_of (by omega) (by omega), (Prp.syl (by omega) (by omega)).2.1⟩
  · unfold joinI at e
    rw [if_neg h1, if_neg h2] at e
    exact P_good _ (Par.lookJ_mem e)
/-- what is put together has what was, or what two of it are together -/
theorem putR_mem {r : Int} {R R' : List Int} (e : putR (fun h => joinI h r) R = some R') : ∀ x ∈ R', x ∈ R ∨ ∃ h, joinI h r = some x := by
  induction R generalizing R' with
  | nil => cases e
  | cons y t ih =>
    unfold putR at e
    split at e
    · cases e2 : putR (fun h => joinI h r) t with
      | none => rw [e2] at e; cases e
      | some w =>
        rw [e2] at e
        obtain rfl := Option.some.inj e
        intro x hx
        rcases List.mem_cons.1 hx with rfl | hx
        · exact .inl (List.mem_cons_self ..)
        · exact (ih e2 x hx).imp (List.mem_cons_of_mem _) id
    · cases e2 : joinI y r with
      | none => rw [e2] at e; cases e
      | some v =>
        rw [e2] at e
        obtain rfl := Option.some.inj e
        intro x hx
        rcases List.mem_cons.1 hx with rfl | hx
        · exact .inr ⟨y, e2⟩
        · exact .inl (List.mem_cons_of_mem _ hx)
theorem compR_all (P : Int → Prop) (hj : ∀ h r v, joinI h r = some v → P v) (l R : List Int) (hl : ∀ x ∈ l, P x) (hR : ∀ x ∈ R, P x) : ∀ x ∈ compR l R, P x := by
  induction l generalizing R with
  | nil => exact hR
  | cons r t ih =>
    rw [compR_cons]
    refine ih (cstep R r) (fun x hx => hl x (List.mem_cons_of_mem _ hx)) ?_
    have told : ∀ x ∈ r :: R, P x := by
      intro x hx
      rcases List.mem_cons.1 hx with rfl | hx
      · exact hl _ (List.mem_cons_self ..)
      · exact hR x hx
    unfold cstep
    split
    · exact told
    · cases e : putR (fun h => joinI h r) R with
      | none => exact told
      | some R' =>
        intro x hx
        rcases putR_mem e x hx with h | ⟨h, hh⟩
        · exact hR x h
        · exact hj _ _ _ hh
theorem compose_all (P : Int → Prop) (hj : ∀ h r v, joinI h r = some v → P v) (l : List Int) (hl : ∀ x ∈ l, P x) : ∀ x ∈ composeI l, P x := by
  intro x hx
  exact compR_all P hj l [] hl (fun _ h => by cases h) x (List.mem_reverse.1 hx)
theorem made_good {l : List Int} (h : Good l) : Good (madeI l) := by
  intro x hx
  obtain ⟨y, hy, hxy⟩ := List.mem_flatMap.1 hx
  exact full_good (h y hy) x hxy
theorem nfkd_good {l : List Int} (h : Good l) : Good (nfkdI l) := by
  intro x hx
  rcases safe_mem (order_mem hx) with hx | rfl
  · exact made_good h x hx
  · decide
theorem nfkc_good {l : List Int} (h : Good l) : Good (nfkcI l) := compose_all _ (fun _ _ _ e => (join_good e).1) _ (nfkd_good h)
theorem left_good {l : List Int} (h : Good l) : Good (leftI l) := by
  intro x hx
  have hx := (List.mem_filter.1 hx).1
  obtain ⟨y, hy, hxy⟩ := List.mem_flatMap.1 hx
  exact Cas.fold_good (h y hy) x hxy
theorem all_good (b : List UInt8) : Good (Dec.allL b) := fun x hx => Dec.all_good b x hx
theorem values_good (b : List UInt8) : Good (valuesI b) := nfkc_good (left_good (nfkc_good (all_good b)))
/-- the text of good values is read as these -/
theorem read_text {l : List Int} (h : Good l) : Dec.allL (Dec.textL l) = l := by
  rw [Dec.all_text]
  have : ∀ l : List Int, Good l → l.map Dec.fix = l := by
    intro l h
    induction l with
    | nil => rfl
    | cons x t ih => rw [List.map_cons, Dec.fix_good (h x (List.mem_cons_self ..)), ih fun y hy => h y (List.mem_cons_of_mem _ hy)]
  exact this l h
/-- FlowFrames -/
theorem clusters_flat (b : List UInt8) : (clustersI b).flatten = valuesI b := (Sgm.all_join _).1
theorem clusters_len (b : List UInt8) : ∀ c ∈ clustersI b, 1 ≤ c.length ∧ c.length ≤ 32 := (Sgm.all_join _).2
theorem clusters_good (b : List UInt8) : ∀ c ∈ clustersI b, Good c := by
  intro c hc x hx
  refine values_good b x ?_
  rw [← clusters_flat]
  exact List.mem_flatten.2 ⟨c, hc, hx⟩
theorem frames_all (b : List UInt8) : Frm.allF (frameI b) = (textsI b, ((frameI b).length : Int), 0) := by
  refine Frm.all_put fun c hc => ?_
  have := clusters_len b c hc
  exact ⟨(by rintro rfl; simp at this), by omega⟩
theorem values_form (b : List UInt8) : nfkcI (valuesI b) = valuesI b := nfkc_nfkc _
theorem values_marks (b : List UInt8) : marksI (valuesI b) ≤ 30 := nfkc_marks _
/-- FlowForms -/
theorem frame_of_values {a b : List UInt8} (h : valuesI a = valuesI b) : frameI a = frameI b := by unfold frameI clustersI; rw [h]
theorem forms {g x : List Int} (hg : Good g) (hx : Good x) (h : nfkcI x = nfkcI g) : frameI (Dec.textL x) = frameI (Dec.textL g) := by
  refine frame_of_values ?_
  unfold valuesI
  rw [read_text hx, read_text hg, h]
/-- values that are in the form: made of nothing else, or two values together -/
def Whole (w : Int) : Prop := fullI w = [w] ∨ ∃ h r, joinI h r = some w
theorem nfkc_whole (l : List Int) : ∀ x ∈ nfkcI l, Whole x := compose_all _ (fun h r v e => .inr ⟨h, r, e⟩) _ fun x hx => .inl (nfkd_part hx)
def fixedB (q : Int) : Bool := decide (Cas.foldI q = [q])
/-- of each row: what it is folded to is made of what stays, if it is in the form -/
def rowA (s : Int × List Int) : Bool := !(decide (fullI s.1 = [s.1]) || (Par.lookB Par.T s.1).isSome) || s.2.all fun p => (fullI p).all fixedB
/-- of each row: if all that it is made of stays, what it is folded to is made of the same -/
def rowB (s : Int × List Int) : Bool := !((fullI s.1).all fixedB) || decide (madeI s.2 = fullI s.1)
theorem rows_A : Cas.T.all rowA = true := by decide +kernel
theorem rows_B : Cas.T.all rowB = true := by decide +kernel
theorem rows_C : ∀ s ∈ Cas.T, (s.1 < 0xAC00 ∨ 0xD7A3 < s.1) ∧ (s.1 < 0x1100 ∨ 0x11FF < s.1) ∧ ∀ p ∈ s.2, drpB p = false := by decide +kernel
theorem rows_D : ∀ s ∈ Par.T, (Lk.look Cas.T s.2.2).isSome = true ∨ ∀ q ∈ fullI s.2.2, fixedB q = true := by decide +kernel
theorem rows_E : ∀ s ∈ Dcp.T, ∀ x ∈ s.2, x ≠ 847 := by decide +kernel
theorem fixed_iff (q : Int) : fixedB q = true ↔ Cas.foldI q = [q] := by unfold fixedB; simp
theorem fixed_jamo {q : Int} (h : (0x1100 ≤ q ∧ q ≤ 0x11FF) ∨ (0xAC00 ≤ q ∧ q ≤ 0xD7A3)) : Cas.foldI q = [q] :=
  Cas.fold_self fun s hs e => by have := rows_C s hs; omega
/-- what a value in the form is folded to is made of what stays -/
theorem parts_fixed {w : Int} (hw : Whole w) : ∀ p ∈ Cas.foldI w, ∀ q ∈ fullI p, Cas.foldI q = [q] := by
  intro p hp q hq
  rcases Cas.fold_cases w with hf | hrow
  · rw [hf] at hp
    obtain rfl : p = w := by simpa using hp
    rcases hw with h | ⟨h, r, e⟩
    · rw [h] at hq
      obtain rfl : q = p := by simpa using hq
      exact hf
    · by_cases h1 : Par.LV h r
      · obtain ⟨_, _, hfv, _, _⟩ := join_facts e
        obtain ⟨a1, a2, b1, b2⟩ := h1
        rw [hfv, Dcp.full_jamo (r := h) (by omega)] at hq
        simp only [List.mem_append, List.mem_singleton] at hq
        rcases hq with rfl | rfl
        · exact fixed_jamo (.inl (by omega))
        · exact fixed_jamo (.inl (by omega))
      by_cases h2 : Par.LVT h r
      · obtain ⟨_, _, hfv, _, _⟩ := join_facts e
        obtain ⟨a1, a2, a3, b1, b2⟩ := h2
        rw [hfv, Dcp.full_syl ⟨a1, a2⟩] at hq
        simp only [List.mem_append, List.mem_singleton] at hq
        rcases hq with hq | rfl
        · have := Dcp.syl_parts (by omega) (by omega) q hq
          exact fixed_jamo (.inl (by omega))
        · exact fixed_jamo (.inl (by omega))
      · unfold joinI at e
        rw [if_neg h1, if_neg h2] at e
        rcases rows_D _ (Par.lookJ_mem e) with hs | hs
        · exfalso
          obtain ⟨v, hv⟩ := Option.isSome_iff_exists.1 hs
          have hm := Lk.look_mem hv
          have hv2 : Cas.foldI p = v := by unfold Cas.foldI; rw [hv]; rfl
          rw [hf] at hv2
          subst hv2
          exact Cas.parts_far _ hm p (List.mem_cons_self ..) _ hm rfl
        · exact (fixed_iff q).1 (hs q hq)
  · have h := List.all_eq_true.1 rows_A _ hrow
    unfold rowA at h
    simp only [Bool.or_eq_true, Bool.not_eq_true', Bool.or_eq_false_iff, decide_eq_false_iff_not, List.all_eq_true] at h
    rcases h with ⟨h1, h2⟩ | h
    · exfalso
      rcases hw with hw | ⟨h, r, e⟩
      · exact h1 hw
      · by_cases h3 : Par.LV h r
        · have := (rows_C _ hrow).1
          have hv := (Par.join_back e).1
          have ev : w = 0xAC00 + ((h - 0x1100) * 21 + (r - 0x1161)) * 28 := by
            unfold joinI at e
            rw [if_pos h3] at e
            exact (Option.some.inj e).symm
          obtain ⟨a1, a2, b1, b2⟩ := h3
          simp only at this
          omega
        by_cases h4 : Par.LVT h r
        · have := (rows_C _ hrow).1
          have ev : w = h + r - 0x11A7 := by
            unfold joinI at e
            rw [if_neg h3, if_pos h4] at e
            exact (Option.some.inj e).symm
          obtain ⟨a1, a2, a3, b1, b2⟩ := h4
          simp only at this
          omega
        · unfold joinI at e
          rw [if_neg h3, if_neg h4] at e
          rw [Par.lookB_of_mem Par.apartB (Par.lookJ_mem e)] at h2
          cases h2
    · exact (fixed_iff q).1 (h p hp q hq)
theorem full_drop {p : Int} (h : drpB p = false) : ∀ q ∈ fullI p, drpB q = false := by
  intro q hq
  by_cases h1 : 0xAC00 ≤ p ∧ p ≤ 0xD7A3
  · rw [Dcp.full_syl h1] at hq
    have hj : ∀ k : Nat, k < 19 + 21 + 28 → drpB (if k < 19 then 0x1100 + (k : Int) else if k < 40 then 0x1161 + ((k : Int) - 19) else 0x11A7 + ((k : Int) - 40)) = false := by decide +kernel
    have key : (0x1100 ≤ q ∧ q < 0x1113) ∨ (0x1161 ≤ q ∧ q < 0x1176) ∨ (0x11A7 ≤ q ∧ q < 0x11C3) := by
      unfold Dcp.sylL at hq
      split at hq <;> (simp at hq; omega)
    rcases key with g | g | g
    · have := hj (q - 0x1100).toNat (by omega)
      rw [if_pos (by omega), show 0x1100 + (((q - 0x1100).toNat : Nat) : Int) = q by omega] at this
      exact this
    · have := hj ((q - 0x1161).toNat + 19) (by omega)
      rw [if_neg (by omega), if_pos (by omega), show 0x1161 + ((((q - 0x1161).toNat + 19 : Nat) : Int) - 19) = q by omega] at this
      exact this
    · have := hj ((q - 0x11A7).toNat + 40) (by omega)
      rw [if_neg (by omega), if_neg (by omega), show 0x11A7 + ((((q - 0x11A7).toNat + 40 : Nat) : Int) - 40) = q by omega] at this
      exact this
  by_cases h2 : 0xFF01 ≤ p ∧ p ≤ 0xFF5E
  · rw [Dcp.full_wide h2] at hq
    obtain rfl : q = p - 0xFEE0 := by simpa using hq
    exact (Prp.ascii _ (by omega) (by omega)).2.1
  cases e : Lk.look Dcp.T p with
  | none =>
    have hf : fullI p = [p] := by unfold fullI; rw [if_neg h1, if_neg h2, e]; rfl
    rw [hf] at hq
    obtain rfl : q = p := by simpa using hq
    exact h
  | some l =>
    have hf : fullI p = l := by unfold fullI; rw [if_neg h1, if_neg h2, e]; rfl
    rw [hf] at hq
    exact (T_good _ (Lk.look_mem e) q hq).2
/-- of what is left of the form, all that it is made of stays, and is not dropped -/
theorem made_left (x : List Int) : ∀ q ∈ madeI (leftI (nfkcI x)), Cas.foldI q = [q] ∧ drpB q = false := by
  intro q hq
  obtain ⟨p, hp, hqp⟩ := List.mem_flatMap.1 hq
  obtain ⟨hp1, hp2⟩ := List.mem_filter.1 hp
  obtain ⟨w, hw, hpw⟩ := List.mem_flatMap.1 hp1
  exact ⟨parts_fixed (nfkc_whole x w hw) p hpw q hqp, full_drop (by simpa using hp2) q hqp⟩
/-- if all that a value is made of stays, what it is folded to is made of the same -/
theorem fold_made {v : Int} (h : ∀ q ∈ fullI v, Cas.foldI q = [q]) : madeI (Cas.foldI v) = fullI v := by
  rcases Cas.fold_cases v with hf | hrow
  · rw [hf]; simp [madeI]
  · have hb := List.all_eq_true.1 rows_B _ hrow
    unfold rowB at hb
    simp only [Bool.or_eq_true, Bool.not_eq_true', decide_eq_true_eq] at hb
    rcases hb with hb | hb
    · exfalso
      have : (fullI v).all fixedB = true := List.all_eq_true.2 fun q hq => (fixed_iff q).2 (h q hq)
      rw [this] at hb
      cases hb
    · exact hb
end Go.Proofs.YtnlnkjaapdefiaaGreatDoor.Flw

/- Layer 14, plain mathematics: the whole of it at once. -/
namespace Go.Proofs.YtnlnkjaapdefiaaGreatDoor.Flw
set_option linter.unusedSimpArgs false
set_option linter.unusedVariables false
open Prp (mrkB cccI drpB gcbI)
open Dcp (fullI)
open Par (joinI)
open Can Nfk Fol
/-- the same marks' places, and the same values between -/
inductive Alike : List Int → List Int → Prop
  | nil : Alike [] []
  | cons {a b : Int} {m S : List Int} (h : mrkB a = mrkB b ∧ (mrkB b = false → a = b)) (t : Alike m S) : Alike (a :: m) (b :: S)
theorem alike_of {m S : List Int} (hm : m.map mrkB = S.map mrkB) (hf : m.filter (fun x => decide (cccI x = 0)) = S.filter (fun x => decide (cccI x = 0))) : Alike m S := by
  induction m generalizing S with
  | nil =>
    cases S with
    | nil => exact .nil
    | cons y t => simp at hm
  | cons x s ih =>
    cases S with
    | nil => simp at hm
    | cons y t =>
      simp only [List.map_cons, List.cons.injEq] at hm
      by_cases hx : mrkB x = true
      · have hy : mrkB y = true := by rw [← hm.1]; exact hx
        have hx0 : ¬ cccI x = 0 := by have := (mrk_iff x).1 hx; omega
        have hy0 : ¬ cccI y = 0 := by have := (mrk_iff y).1 hy; omega
        simp only [List.filter_cons, decide_eq_true_eq, if_neg hx0, if_neg hy0] at hf
        exact .cons ⟨hm.1, fun h => by rw [hy] at h; cases h⟩ (ih hm.2 hf)
      · have hx' : mrkB x = false := by simpa using hx
        have hy : mrkB y = false := by rw [← hm.1]; exact hx'
        have hx0 : cccI x = 0 := (mrk_no x).1 hx'
        have hy0 : cccI y = 0 := (mrk_no y).1 hy
        simp only [List.filter_cons, decide_eq_true_eq, if_pos hx0, if_pos hy0, List.cons.injEq] at hf
        exact .cons ⟨hm.1, fun _ => hf.1⟩ (ih hm.2 hf.2)
/-- what was put between comes back where it stood -/
theorem safe_again {D m : List Int} {n : Nat} (hD : ∀ x ∈ D, x ≠ 847) (h : Alike m (safeI D n)) : safeI (m.filter fun x => decide (x ≠ 847)) n = m := by
  induction D generalizing m n with
  | nil =>
    cases h with
    | nil => rfl
  | cons x t ih =>
    have ht : ∀ y ∈ t, y ≠ 847 := fun y hy => hD y (List.mem_cons_of_mem _ hy)
    have hne : ∀ {b : Int}, mrkB b = true → b ≠ 847 := fun hb e => by rw [e, mrk847] at hb; cases hb
    unfold safeI at h
    by_cases hx : mrkB x = true
    · rw [if_pos hx] at h
      by_cases h30 : n = 30
      · rw [if_pos h30] at h
        cases h with
        | cons h1 h2 =>
          cases h2 with
          | cons h3 h4 =>
            rename_i a b u
            have ha : a = 847 := h1.2 mrk847
            rw [ha]
            have hb : mrkB b = true := by rw [h3.1]; exact hx
            have e1 : ((847 : Int) :: b :: u).filter (fun x => decide (x ≠ 847)) = b :: u.filter (fun x => decide (x ≠ 847)) := by simp [hne hb]
            rw [e1, safeI, if_pos hb, if_pos h30, ih ht h4]
      · rw [if_neg h30] at h
        cases h with
        | cons h1 h2 =>
          rename_i b u
          have hb : mrkB b = true := by rw [h1.1]; exact hx
          have e1 : (b :: u).filter (fun x => decide (x ≠ 847)) = b :: u.filter (fun x => decide (x ≠ 847)) := by simp [hne hb]
          rw [e1, safeI, if_pos hb, if_neg h30, ih ht h2]
    · rw [if_neg hx] at h
      have hx' : mrkB x = false := by simpa using hx
      cases h with
      | cons h1 h2 =>
        rename_i b u
        obtain rfl : b = x := h1.2 hx'
        have e1 : (b :: u).filter (fun x => decide (x ≠ 847)) = b :: u.filter (fun x => decide (x ≠ 847)) := by simp [hD b (List.mem_cons_self ..)]
        rw [e1, safeI, if_neg hx, ih ht h2]
theorem drp847 : drpB 847 = true := by decide +kernel
theorem fold847 : Cas.foldI 847 = [847] := by decide +kernel
theorem left847 : madeI (leftI [847]) = (fullI 847).filter (fun q => decide (q ≠ 847)) := by
  rw [left_dropped drp847, full847]
  decide
/-- what came out comes out again -/
theorem once (x : List Int) : nfkcI (leftI (nfkcI (leftI (nfkcI x)))) = nfkcI (leftI (nfkcI x)) := by
  obtain ⟨D, hD⟩ : ∃ D, madeI (leftI (nfkcI x)) = D := ⟨_, rfl⟩
  have hDp : ∀ q ∈ D, Cas.foldI q = [q] ∧ drpB q = false := by rw [← hD]; exact made_left x
  have hD847 : ∀ q ∈ D, q ≠ 847 := fun q hq e => by have := (hDp q hq).2; rw [e, drp847] at this; cases this
  obtain ⟨V, hV⟩ : ∃ V, nfkcI (leftI (nfkcI x)) = V := ⟨_, rfl⟩
  have hd : nfkdI (leftI (nfkcI x)) = orderI (safeI D 0) := by unfold nfkdI; rw [hD]
  have hVd : V = composeI (orderI (safeI D 0)) := by rw [← hV, ← hd]; rfl
  -- what the form is made of
  obtain ⟨hc1, _, _⟩ := composes (nfkd_sorted (leftI (nfkcI x))) fun _ h => nfkd_part h
  rw [hd, ← hVd] at hc1
  have hmade : orderI (madeI V) = orderI (safeI D 0) := hc1
  have hmap : (madeI V).map mrkB = (safeI D 0).map mrkB := by rw [← orderI_map (madeI V), hmade, orderI_map]
  have hfil : (madeI V).filter (fun x => decide (cccI x = 0)) = (safeI D 0).filter (fun x => decide (cccI x = 0)) := by rw [← orderI_filter 0 (madeI V), hmade, orderI_filter]
  have hal : Alike (madeI V) (safeI D 0) := alike_of hmap hfil
  -- each part of it
  have hparts : ∀ q ∈ madeI V, Cas.foldI q = [q] ∧ (q = 847 ∨ drpB q = false) := by
    intro q hq
    have hq2 : q ∈ orderI (madeI V) := by
      have h1 := orderI_filter (cccI q) (madeI V)
      have : q ∈ (madeI V).filter (fun y => decide (cccI y = cccI q)) := List.mem_filter.2 ⟨hq, by simp⟩
      rw [← h1] at this
      exact (List.mem_filter.1 this).1
    rw [hmade] at hq2
    rcases safe_mem (order_mem hq2) with h | rfl
    · exact ⟨(hDp q h).1, .inr (hDp q h).2⟩
    · exact ⟨fold847, .inl rfl⟩
  have hwhole : ∀ v ∈ V, Whole v := by rw [← hV]; exact nfkc_whole _
  -- what is left of it, made
  have hleft : ∀ L : List Int, (∀ v ∈ L, v ∈ V) → madeI (leftI L) = (madeI L).filter fun q => decide (q ≠ 847) := by
    intro L hL
    induction L with
    | nil => rfl
    | cons v t ih =>
      have hv := hL v (List.mem_cons_self ..)
      have hq : ∀ q ∈ fullI v, Cas.foldI q = [q] ∧ (q = 847 ∨ drpB q = false) := fun q hq => hparts q (List.mem_flatMap.2 ⟨v, hv, hq⟩)
      have e1 : madeI (v :: t) = fullI v ++ madeI t := rfl
      rw [left_cons, made_app, e1, List.filter_append, ih fun y hy => hL y (List.mem_cons_of_mem _ hy)]
      suffices key : madeI (leftI [v]) = (fullI v).filter (fun q => decide (q ≠ 847)) by rw [key]
      by_cases h847 : v = 847
      · rw [h847]
        exact left847
      · -- nothing of it is dropped
        have hfull : ∀ q ∈ fullI v, q ≠ 847 := by
          intro q hqv e
          subst e
          rcases hwhole v hv with hw | ⟨h, r, e⟩
          · rw [hw] at hqv
            exact h847 (by simpa using hqv : (847 : Int) = v).symm
          · obtain ⟨_, _, hfv, hfr, _⟩ := join_facts e
            rcases Lk_cases v with hs | hs
            · obtain ⟨s1, s2⟩ := hs
              rw [s2] at hqv
              have := Dcp.syl_parts (by omega) (by omega) _ hqv
              omega
            · rcases hs with hs | hs
              · rw [hs] at hqv
                exact h847 (by simpa using hqv : (847 : Int) = v).symm
              · exact hs hqv
        have hdv : ∀ p ∈ Cas.foldI v, drpB p = false := by
          intro p hp
          rcases Cas.fold_cases v with hf | hrow
          · rw [hf] at hp
            obtain rfl : p = v := by simpa using hp
            rcases hwhole p hv with hw | ⟨h, r, e⟩
            · rcases (hq p (by rw [hw]; exact List.mem_cons_self ..)).2 with h | h
              · exact absurd h h847
              · exact h
            · exact (join_good e).2
          · exact (rows_C _ hrow).2.2 p hp
        have e2 : leftI [v] = Cas.foldI v := by
          unfold leftI
          have e3 : Cas.allI [v] = Cas.foldI v := by simp [Cas.allI]
          rw [e3]
          exact List.filter_eq_self.2 fun p hp => by rw [hdv p hp]; rfl
        rw [e2, fold_made fun q hqv => (hq q hqv).1]
        exact (List.filter_eq_self.2 fun q hqv => by simpa using hfull q hqv).symm
  have hE : madeI (leftI V) = (madeI V).filter fun q => decide (q ≠ 847) := hleft V fun _ h => h
  rw [hV]
  show composeI (orderI (safeI (madeI (leftI V)) 0)) = V
  rw [hE, safe_again hD847 hal, hmade, ← hVd]
where
  Lk_cases (v : Int) : ((∃ (_ : 0xAC00 ≤ v ∧ v ≤ 0xD7A3), fullI v = Dcp.sylL (v - 0xAC00))) ∨ (fullI v = [v] ∨ ¬ (847 : Int) ∈ fullI v) := by
    by_cases h1 : 0xAC00 ≤ v ∧ v ≤ 0xD7A3
    · exact .inl ⟨h1, Dcp.full_syl h1⟩
    by_cases h2 : 0xFF01 ≤ v ∧ v ≤ 0xFF5E
    · right; right
      rw [Dcp.full_wide h2]
      simp
      omega
    · right
      cases e : Lk.look Dcp.T v with
      | none => left; unfold fullI; rw [if_neg h1, if_neg h2, e]; rfl
      | some p =>
        right
        have hf : fullI v = p := by unfold fullI; rw [if_neg h1, if_neg h2, e]; rfl
        rw [hf]
        exact fun hm => rows_E _ (Lk.look_mem e) _ hm rfl
theorem texts_flat (b : List UInt8) : (textsI b).flatten = Dec.textL (valuesI b) := by
  unfold textsI
  rw [← Frm.text_flat, clusters_flat]
theorem frame_once (b : List UInt8) : frameI ((textsI b).flatten) = frameI b := by
  refine frame_of_values ?_
  rw [texts_flat]
  have h : valuesI (Dec.textL (valuesI b)) = nfkcI (leftI (nfkcI (valuesI b))) := by
    have e := read_text (values_good b)
    show nfkcI (leftI (nfkcI (Dec.allL (Dec.textL (valuesI b))))) = _
    rw [e]
  rw [h, values_form]
  exact once _
end Go.Proofs.YtnlnkjaapdefiaaGreatDoor.Flw

/- Layer 14, plain mathematics: what controls stands between. -/
namespace Go.Proofs.YtnlnkjaapdefiaaGreatDoor.Flw
set_option linter.unusedSimpArgs false
set_option linter.unusedVariables false
open Prp (mrkB cccI drpB gcbI)
open Dcp (fullI)
open Par (joinI)
open Can Nfk Fol
theorem low_beg {c : UInt8} (h : c.toNat < 128) : Dec.begL [c] = false := by
  rw [Bool.eq_false_iff]
  intro hb
  have := Dec.beg_high hb
  have e : Dec.nb [c] 0 = c.toNat := rfl
  omega
/-- a byte of ASCII ends what was begun, and is told -/
theorem feed_low {s : List UInt8} {c : UInt8} (hs : Dec.saneL s = true) (h : c.toNat < 128) : Dec.feedL s c = ([], Dec.endLL s ++ [(c.toNat : Int)]) := by
  have h0 : Dec.feedL [] c = ([], [(c.toNat : Int)]) := by
    rw [Dec.feedL_zero, low_beg h, Dec.dec1_fst, if_pos h]
    simp
  by_cases hb : Dec.begL s = true
  · have hn : 1 ≤ s.length := by
      cases s with
      | nil => cases hb
      | cons a t => simp
    rw [Dec.feedL_rec hs (Dec.beg_low hb h) (by rw [Dec.dec_low hb h]; omega), h0]
    unfold Dec.endLL
    rw [hb]
    rfl
  · have : s = [] := by
      unfold Dec.saneL at hs
      simp only [Bool.or_eq_true, decide_eq_true_eq] at hs
      rcases hs with hs | hs
      · exact List.eq_nil_of_length_eq_zero hs
      · exact absurd hs hb
    subst this
    rw [h0]
    rfl
theorem dec_apart (a b : List UInt8) {c : UInt8} (h : c.toNat < 128) : Dec.allL (a ++ c :: b) = Dec.allL a ++ (c.toNat : Int) :: Dec.allL b := by
  rw [Dec.allL_eq, Dec.allL_eq, Dec.allL_eq]
  unfold Dec.allLL
  rw [Dec.runL_append]
  have hs := Dec.runL_sane [] rfl a
  simp only [Dec.runL]
  rw [feed_low hs h]
  simp
/-- a value that is one with nothing behind it -/
structure Lone (h : Int) : Prop where
  mark : mrkB h = false
  full : fullI h = [h]
  back : ∀ x, joinI x h = none
  ahead : ∀ m, joinI h m = none
theorem insR_lone {h : Int} (hh : mrkB h = false) (r : Int) (N : List Int) : insR r (N ++ [h]) = insR r N ++ [h] := by
  induction N with
  | nil => simp [insR, hh]
  | cons y t ih =>
    simp only [List.cons_append]
    unfold insR
    split
    · rw [ih]; rfl
    · rfl
theorem order_lone {h : Int} (hh : mrkB h = false) (L : List Int) : orderI (h :: L) = h :: orderI L := by
  have key : ∀ (L N : List Int), orderR L (N ++ [h]) = orderR L N ++ [h] := by
    intro L
    induction L with
    | nil => intro N; rfl
    | cons x t ih =>
      intro N
      rw [orderR_cons, orderR_cons]
      have : stepR (N ++ [h]) x = stepR N x ++ [h] := by
        unfold stepR
        split
        · exact insR_lone hh x N
        · rfl
      rw [this, ih]
  unfold orderI
  rw [orderR_cons]
  have e : stepR [] h = [] ++ [h] := by unfold stepR; rw [hh]; rfl
  rw [e, key]
  simp
theorem putR_lone {h r : Int} (hh : mrkB h = false) (hn : joinI h r = none) (N : List Int) : putR (fun x => joinI x r) (N ++ [h]) = (putR (fun x => joinI x r) N).map (· ++ [h]) := by
  induction N with
  | nil =>
    simp only [List.nil_append]
    unfold putR
    rw [hh, hn]
    rfl
  | cons x t ih =>
    simp only [List.cons_append]
    unfold putR
    split
    · rw [ih]
      cases putR (fun x => joinI x r) t <;> rfl
    · cases joinI x r <;> rfl
theorem compose_lone {h : Int} (hl : Lone h) (L : List Int) : composeI (h :: L) = h :: composeI L := by
  have key : ∀ (L N : List Int), compR L (N ++ [h]) = compR L N ++ [h] := by
    intro L
    induction L with
    | nil => intro N; rfl
    | cons x t ih =>
      intro N
      rw [compR_cons, compR_cons]
      have hb : blockR x (N ++ [h]) = blockR x N := by
        cases N with
        | nil => simp [blockR, hl.mark]
        | cons y u => rfl
      have : cstep (N ++ [h]) x = cstep N x ++ [h] := by
        unfold cstep
        rw [hb, putR_lone hl.mark (hl.ahead x)]
        split
        · rfl
        · cases putR (fun h => joinI h x) N <;> rfl
      rw [this, ih]
  unfold composeI
  rw [compR_cons]
  have e : cstep [] h = [] ++ [h] := by simp [cstep, blockR, putR]
  rw [e, key]
  simp
theorem nfkc_lone {h : Int} (hl : Lone h) (L : List Int) : nfkcI (h :: L) = h :: nfkcI L := by
  have e : madeI (h :: L) = h :: madeI L := by show fullI h ++ madeI L = _; rw [hl.full]; rfl
  have e2 : safeI (h :: madeI L) 0 = h :: safeI (madeI L) 0 := by simp [safeI, hl.mark]
  unfold nfkcI nfkdI
  rw [e, e2, order_lone hl.mark, compose_lone hl]
theorem lone1 : Lone 1 := by
  refine ⟨by decide +kernel, by decide +kernel, (ascii_alone (h := 1) (by omega)).2, fun m => ?_⟩
  unfold joinI
  rw [if_neg (by unfold Par.LV; omega), if_neg (by unfold Par.LVT; omega)]
  refine Par.lookJ_none fun s hs e => ?_
  have := (Par.rows_far s hs).1
  omega
theorem nfkc_apart (X Y : List Int) : nfkcI (X ++ 1 :: Y) = nfkcI X ++ 1 :: nfkcI Y := by
  rw [nfkc_head (by omega) (by omega), nfkc_lone lone1]
theorem left_apart (X Y : List Int) : leftI (X ++ 1 :: Y) = leftI X ++ 1 :: leftI Y := by
  rw [left_app, left_cons]
  have e : leftI [1] = [1] := by decide +kernel
  rw [e]
  rfl
theorem values_apart (a b : List UInt8) : valuesI (a ++ 1 :: b) = valuesI a ++ 1 :: valuesI b := by
  unfold valuesI
  rw [dec_apart a b (by decide)]
  show nfkcI (leftI (nfkcI (Dec.allL a ++ 1 :: Dec.allL b))) = _
  rw [nfkc_apart, left_apart, nfkc_apart]
open Clu (CS zero endsI nextI)
theorem gcb1 : gcbI 1 = 3 := by decide +kernel
theorem next1 (s : CS) : nextI s 1 = ⟨true, 3, false, false⟩ := by
  unfold nextI Clu.nextK
  rw [gcb1]
  simp
theorem ends1 {s : CS} (hs : Clu.saneB s = true) (ho : s.on = true) : endsI s 1 = true := by
  unfold endsI
  rw [gcb1]
  exact Clu.ends_control hs ho (by omega) (.inr (by omega))
theorem after1 (q : Int) : endsI ⟨true, 3, false, false⟩ q = true ∧ nextI ⟨true, 3, false, false⟩ q = nextI zero q := by
  refine ⟨Clu.ends_control (by decide) rfl (by simp) (.inl (by simp)), ?_⟩
  unfold nextI Clu.nextK
  have h1 : Clu.saneB ⟨true, 3, false, false⟩ = true := by decide
  have h2 : Clu.saneB zero = true := by decide
  rw [if_pos h1, if_pos h2]
  simp [zero]
theorem segs_one (Q : List Int) : Sgm.segs [1] ⟨true, 3, false, false⟩ Q = [1] :: Sgm.allI Q := by
  cases Q with
  | nil => rfl
  | cons q t =>
    obtain ⟨h1, h2⟩ := after1 q
    rw [Sgm.segs_cons, if_pos ⟨by simp, .inl h1⟩, h2]
    unfold Sgm.allI
    rw [Sgm.segs_cons, if_neg (by simp)]
    rfl
theorem run_sane (c : List Int) (s : CS) (P : List Int) (h : c = [] ∧ s = zero ∨ (c ≠ [] ∧ Clu.saneB s = true ∧ s.on = true)) :
    (Sgm.runI c s P).2.1 = [] ∧ (Sgm.runI c s P).2.2 = zero ∨ ((Sgm.runI c s P).2.1 ≠ [] ∧ Clu.saneB (Sgm.runI c s P).2.2 = true ∧ (Sgm.runI c s P).2.2.on = true) := by
  induction P generalizing c s with
  | nil => exact h
  | cons r t ih =>
    obtain ⟨a, b, _⟩ := Clu.next_sane s r
    rw [Sgm.run_cons]
    split
    · exact ih _ _ (.inr ⟨by simp, a, b⟩)
    · exact ih _ _ (.inr ⟨by simp, a, b⟩)
theorem segs_apart (P Q : List Int) : Sgm.allI (P ++ 1 :: Q) = Sgm.allI P ++ [1] :: Sgm.allI Q := by
  unfold Sgm.allI
  have e := Sgm.segs_run [] zero P []
  rw [List.append_nil] at e
  rw [Sgm.segs_run, e, List.append_assoc]
  congr 1
  rcases run_sane [] zero P (.inl ⟨rfl, rfl⟩) with ⟨h1, h2⟩ | ⟨h1, h2, h3⟩
  · rw [h1, h2, Sgm.segs_cons, if_neg (by simp), next1]
    exact segs_one Q
  · rw [Sgm.segs_cons, if_pos ⟨h1, .inl (ends1 h2 h3)⟩, next1, segs_one]
    have : Sgm.segs (Sgm.runI [] zero P).2.1 (Sgm.runI [] zero P).2.2 [] = [(Sgm.runI [] zero P).2.1] := by rw [Sgm.segs, if_neg h1]
    rw [this]
    rfl
theorem frame_apart (a b : List UInt8) : frameI (a ++ 1 :: b) = frameI a ++ [1, 1] ++ frameI b := by
  unfold frameI clustersI
  rw [values_apart, segs_apart]
  have e : Frm.putF [1] = [1, 1] := by decide +kernel
  simp [e]
end Go.Proofs.YtnlnkjaapdefiaaGreatDoor.Flw

