/- Layer 7, plain mathematics: values put together. Lists stand the other way round (the last one first) while they grow. -/
import Derived.Test.YtkhjkodeolaemaaDoorCnM
import Derived.Test.YtkhjkodeolaemaaDoorPaM
namespace Go.Proofs.YtkhjkodeolaemaaDoor.Can
set_option linter.unusedSimpArgs false
set_option linter.unusedVariables false
open Prp (mrkB cccI)
open Dcp (fullI)
open Par (joinI)

/-- the last one that is no mark, with something in its place -/
def putR (f : Int → Option Int) : List Int → Option (List Int)
  | [] => none
  | x :: t => if mrkB x = true then (putR f t).map (x :: ·) else (f x).map (· :: t)

def blockR (r : Int) : List Int → Bool
  | [] => false
  | x :: _ => mrkB x && decide (cccI r ≤ cccI x)

def cstep (R : List Int) (r : Int) : List Int := if blockR r R = true then r :: R else (putR (fun h => joinI h r) R).getD (r :: R)
def compR (l R : List Int) : List Int := l.foldl cstep R
def composeI (l : List Int) : List Int := (compR l []).reverse

theorem compR_app (a b R : List Int) : compR (a ++ b) R = compR b (compR a R) := by simp [compR, List.foldl_append]
theorem compR_cons (x : Int) (b R : List Int) : compR (x :: b) R = compR b (cstep R x) := rfl

theorem T_far : ∀ s ∈ Par.T, (s.2.2 < 0x1100 ∨ 0x11FF < s.2.2) ∧ s.2.2 < 0xAC00 := by decide +kernel
theorem T_order : ∀ t ∈ Par.T, (match Par.lookB Par.T t.1 with | none => true | some p => decide (cccI p.2 ≤ cccI t.2.1)) = true := by decide +kernel

theorem syl_mark {v : Int} (h1 : 0xAC00 ≤ v) (h2 : v ≤ 0xD7A3) : mrkB v = false := (mrk_no v).2 (Prp.syl h1 h2).1

theorem not_second {v : Int} (hv : mrkB v = false) (h1 : v < 0x1100 ∨ 0x11FF < v) (x : Int) : joinI x v = none := by
  unfold joinI
  rw [if_neg (by unfold Par.LV; omega), if_neg (by unfold Par.LVT; omega)]
  refine Par.lookJ_none fun s hs e => ?_
  have h := (Par.rows_made s hs).2.2.2.1
  rw [e.2, hv] at h
  cases h

/-- what two values are together -/
theorem join_facts {h r v : Int} (e : joinI h r = some v) : mrkB v = false ∧ mrkB h = false ∧ fullI v = fullI h ++ [r] ∧ fullI r = [r] ∧ (∀ x, joinI x v = none) := by
  by_cases h1 : Par.LV h r
  · have ev : v = 0xAC00 + ((h - 0x1100) * 21 + (r - 0x1161)) * 28 := by
      unfold joinI at e
      rw [if_pos h1] at e
      exact (Option.some.inj e).symm
    obtain ⟨a1, a2, b1, b2⟩ := h1
    have hv1 : 0xAC00 ≤ v := by omega
    have hv2 : v ≤ 0xD7A3 := by omega
    refine ⟨syl_mark hv1 hv2, Dcp.mrk_jamo (by omega), ?_, Dcp.full_jamo (by omega), not_second (syl_mark hv1 hv2) (by omega)⟩
    rw [Dcp.full_syl ⟨hv1, hv2⟩, Dcp.full_jamo (r := h) (by omega)]
    unfold Dcp.sylL
    rw [if_pos (by omega)]
    have e1 : 0x1100 + (v - 0xAC00) / 588 = h := by omega
    have e2 : 0x1161 + (v - 0xAC00) % 588 / 28 = r := by omega
    rw [e1, e2]
    rfl
  by_cases h2 : Par.LVT h r
  · have ev : v = h + r - 0x11A7 := by
      unfold joinI at e
      rw [if_neg h1, if_pos h2] at e
      exact (Option.some.inj e).symm
    obtain ⟨a1, a2, a3, b1, b2⟩ := h2
    have hv1 : 0xAC00 ≤ v := by omega
    have hv2 : v ≤ 0xD7A3 := by omega
    refine ⟨syl_mark hv1 hv2, syl_mark a1 a2, ?_, Dcp.full_jamo (by omega), not_second (syl_mark hv1 hv2) (by omega)⟩
    rw [Dcp.full_syl ⟨hv1, hv2⟩, Dcp.full_syl ⟨a1, a2⟩]
    unfold Dcp.sylL
    rw [if_neg (by omega), if_pos a3]
    have e1 : 0x1100 + (v - 0xAC00) / 588 = 0x1100 + (h - 0xAC00) / 588 := by omega
    have e2 : 0x1161 + (v - 0xAC00) % 588 / 28 = 0x1161 + (h - 0xAC00) % 588 / 28 := by omega
    have e3 : 0x11A7 + (v - 0xAC00) % 28 = r := by omega
    rw [e1, e2, e3]
    rfl
  · unfold joinI at e
    rw [if_neg h1, if_neg h2] at e
    have hm := Par.lookJ_mem e
    obtain ⟨f1, f2, f3, f4, f5, f6⟩ := Par.rows_made _ hm
    have hf := T_far _ hm
    simp only at f1 f2 f3 f4 f5 f6 hf
    refine ⟨f6, f2, ?_, f3, not_second f6 hf.1⟩
    rw [f1, f3]

/-- what is one with what was put together with a mark is a mark of no lower class -/
theorem join_twice {h r v m u : Int} (hr : mrkB r = true) (e : joinI h r = some v) (e2 : joinI v m = some u) : cccI r ≤ cccI m := by
  have h1 : ¬ Par.LV h r := by
    rintro ⟨_, _, b1, b2⟩
    rw [Dcp.mrk_jamo (by omega)] at hr
    cases hr
  have h2 : ¬ Par.LVT h r := by
    rintro ⟨_, _, _, b1, b2⟩
    rw [Dcp.mrk_jamo (by omega)] at hr
    cases hr
  unfold joinI at e
  rw [if_neg h1, if_neg h2] at e
  have hm := Par.lookJ_mem e
  have hf := T_far _ hm
  simp only at hf
  unfold joinI at e2
  rw [if_neg (by unfold Par.LV; omega), if_neg (by unfold Par.LVT; omega)] at e2
  have hm2 := Par.lookJ_mem e2
  have ho := T_order _ hm2
  simp only at ho
  rw [Par.lookB_of_mem Par.apartB hm] at ho
  simpa using ho

theorem putR_marks {f : Int → Option Int} {M : List Int} (h : ∀ m ∈ M, mrkB m = true) : putR f M = none := by
  induction M with
  | nil => rfl
  | cons x t ih =>
    unfold putR
    rw [if_pos (h x (List.mem_cons_self ..)), ih fun m hm => h m (List.mem_cons_of_mem _ hm)]
    rfl

theorem putR_head {f : Int → Option Int} {M P : List Int} {h : Int} (hM : ∀ m ∈ M, mrkB m = true) (hh : mrkB h = false) : putR f (M ++ h :: P) = (f h).map fun v => M ++ v :: P := by
  induction M with
  | nil => simp only [List.nil_append]; unfold putR; rw [hh]; rfl
  | cons x t ih =>
    simp only [List.cons_append]
    unfold putR
    rw [if_pos (hM x (List.mem_cons_self ..)), ih fun m hm => hM m (List.mem_cons_of_mem _ hm)]
    cases f h <;> rfl

/-- each list is all marks, or marks behind a head -/
theorem parts (R : List Int) : ∃ M S, R = M ++ S ∧ (∀ m ∈ M, mrkB m = true) ∧ (S = [] ∨ ∃ h P, S = h :: P ∧ mrkB h = false) := by
  induction R with
  | nil => exact ⟨[], [], rfl, (fun _ h => by cases h), .inl rfl⟩
  | cons x t ih =>
    by_cases hx : mrkB x = true
    · obtain ⟨M, S, rfl, hM, hS⟩ := ih
      refine ⟨x :: M, S, rfl, fun m hm => ?_, hS⟩
      rcases List.mem_cons.1 hm with rfl | hm
      · exact hx
      · exact hM m hm
    · exact ⟨[], x :: t, rfl, (fun _ h => by cases h), .inr ⟨x, t, rfl, by simpa using hx⟩⟩

theorem putR_len {f : Int → Option Int} {R R' : List Int} (h : putR f R = some R') : R'.length = R.length := by
  induction R generalizing R' with
  | nil => cases h
  | cons x t ih =>
    unfold putR at h
    split at h
    · cases e : putR f t with
      | none => rw [e] at h; cases h
      | some t' => rw [e] at h; obtain rfl := Option.some.inj h; simp [ih e]
    · cases e : f x with
      | none => rw [e] at h; cases h
      | some v => rw [e] at h; obtain rfl := Option.some.inj h; simp

theorem cstep_len (R : List Int) (r : Int) : (cstep R r).length = R.length ∨ (cstep R r) = r :: R := by
  unfold cstep
  split
  · exact .inr rfl
  · cases e : putR (fun h => joinI h r) R with
    | none => exact .inr rfl
    | some R' => exact .inl (putR_len e)

theorem compR_le (l R : List Int) : (compR l R).length ≤ l.length + R.length := by
  induction l generalizing R with
  | nil => simp [compR]
  | cons x t ih =>
    rw [compR_cons]
    rcases cstep_len R x with e | e
    · have h := ih (cstep R x)
      rw [e] at h
      simp
      omega
    · rw [e]
      have h := ih (x :: R)
      simp at h ⊢
      omega

theorem compose_le (l : List Int) : (composeI l).length ≤ l.length := by
  have := compR_le l []
  simpa [composeI] using this

/-- all of it was told as it came -/
def stable : List Int → Prop
  | [] => True
  | r :: R => stable R ∧ cstep R r = r :: R

theorem stable_suffix {a R : List Int} (h : stable (a ++ R)) : stable R := by
  induction a with
  | nil => exact h
  | cons x t ih => exact ih h.1

theorem comp_stable {R : List Int} (h : stable R) : compR R.reverse [] = R := by
  induction R with
  | nil => rfl
  | cons x t ih =>
    rw [List.reverse_cons, compR_app, ih h.1]
    exact h.2

theorem compose_same {l : List Int} (h : stable l.reverse) : composeI l = l := by
  have := comp_stable h
  rw [List.reverse_reverse] at this
  unfold composeI
  rw [this, List.reverse_reverse]

/-- what is behind another mark in order is of no lower class than all ahead of it in the row -/
theorem adj_all {x : Int} {M S : List Int} (hM : ∀ m ∈ M, mrkB m = true) (hx : mrkB x = true) (h : adjR (x :: (M ++ S)) = true) : ∀ m ∈ M, cccI m ≤ cccI x := by
  induction M generalizing x with
  | nil => intro m hm; cases hm
  | cons y t ih =>
    intro m hm
    have hy := hM y (List.mem_cons_self ..)
    have h1 := (adj_cons.1 h).1 y _ rfl hx hy
    rcases List.mem_cons.1 hm with rfl | hm
    · exact h1
    · have := ih (fun m hm => hM m (List.mem_cons_of_mem _ hm)) hy (adj_tail h) m hm
      omega

theorem adj_put {M P : List Int} {h v : Int} (__hh : mrkB h = false) (hv : mrkB v = false) (ha : adjR (M ++ h :: P) = true) : adjR (M ++ v :: P) = true := by
  induction M with
  | nil =>
    exact adj_cons.2 ⟨(fun _ _ _ h1 _ => by rw [hv] at h1; cases h1), adj_tail ha⟩
  | cons x t ih =>
    refine adj_cons.2 ⟨fun b s e hx hb => ?_, ih (adj_tail ha)⟩
    cases t with
    | nil =>
      obtain ⟨rfl, rfl⟩ := List.cons.inj e
      rw [hv] at hb
      cases hb
    | cons y u =>
      obtain ⟨rfl, rfl⟩ := List.cons.inj e
      exact (adj_cons.1 ha).1 y _ rfl hx hb

/-- what holds of what was put together (R) of what came in order (Q) -/
structure Inv (Q R : List Int) : Prop where
  adj : adjR R = true
  sta : stable R
  made : orderR (R.reverse.flatMap fullI) [] = Q
  marks : ∀ M S, R = M ++ S → (∀ m ∈ M, mrkB m = true) → (∀ m ∈ M, fullI m = [m]) ∧ (M ≠ [] → ∃ q t, Q = q :: t ∧ mrkB q = true ∧ ∀ m ∈ M, cccI m ≤ cccI q)

theorem inv_nil : Inv [] [] := by
  refine ⟨rfl, trivial, rfl, fun M S e hM => ?_⟩
  have e' : M = [] := (List.append_eq_nil_iff.1 e.symm).1
  subst e'
  exact ⟨(fun _ h => by cases h), fun h => absurd rfl h⟩

theorem flat_marks {M : List Int} (h : ∀ m ∈ M, fullI m = [m]) : M.reverse.flatMap fullI = M.reverse := by
  have : ∀ L : List Int, (∀ m ∈ L, fullI m = [m]) → L.flatMap fullI = L := by
    intro L hL
    induction L with
    | nil => rfl
    | cons x t ih => rw [List.flatMap_cons, hL x (List.mem_cons_self ..), ih fun m hm => hL m (List.mem_cons_of_mem _ hm)]; rfl
  exact this _ fun m hm => h m (List.mem_reverse.1 hm)

/-- it is told -/
theorem inv_told {Q R : List Int} {r : Int} (h : Inv Q R) (hr : fullI r = [r]) (ha : adjR (r :: Q) = true) (hs : cstep R r = r :: R) : Inv (r :: Q) (r :: R) := by
  obtain ⟨M, S, rfl, hM, hS⟩ := parts R
  obtain ⟨hf, hq⟩ := h.marks M S rfl hM
  have hlow : ∀ m ∈ M, mrkB r = true → cccI m ≤ cccI r := by
    intro m hm hr'
    obtain ⟨q, t, rfl, hq1, hq2⟩ := hq (fun e => by rw [e] at hm; cases hm)
    have := (adj_cons.1 ha).1 q t rfl hr' hq1
    have := hq2 m hm
    omega
  refine ⟨?_, ⟨h.sta, hs⟩, ?_, ?_⟩
  · refine adj_cons.2 ⟨fun b s e hr' hb => ?_, h.adj⟩
    cases M with
    | nil =>
      rcases hS with rfl | ⟨x, P, rfl, hx⟩
      · cases e
      · obtain ⟨rfl, rfl⟩ := List.cons.inj e
        rw [hx] at hb
        cases hb
    | cons y u =>
      obtain ⟨rfl, rfl⟩ := List.cons.inj e
      exact hlow y (List.mem_cons_self ..) hr'
  · rw [List.reverse_cons, List.flatMap_append, orderR_app, h.made]
    simp only [List.flatMap_cons, List.flatMap_nil, List.append_nil, hr]
    rw [orderR_one, stepR_same ha]
  · intro M' S' e hM'
    cases M' with
    | nil => exact ⟨(fun _ h => by cases h), fun h => absurd rfl h⟩
    | cons x M'' =>
      obtain ⟨rfl, e2⟩ := List.cons.inj e
      have hx := hM' r (List.mem_cons_self ..)
      obtain ⟨g1, g2⟩ := h.marks M'' S' e2 (fun m hm => hM' m (List.mem_cons_of_mem _ hm))
      refine ⟨fun m hm => ?_, fun _ => ⟨r, Q, rfl, hx, fun m hm => ?_⟩⟩
      · rcases List.mem_cons.1 hm with rfl | hm
        · exact hr
        · exact g1 m hm
      · rcases List.mem_cons.1 hm with rfl | hm
        · exact Int.le_refl _
        · obtain ⟨q, t, rfl, hq1, hq2⟩ := g2 (fun e => by rw [e] at hm; cases hm)
          have := (adj_cons.1 ha).1 q t rfl hx hq1
          have := hq2 m hm
          omega

/-- marks that a list begins with stand ahead of its first value that is none -/
theorem marks_front {M M' P S' : List Int} {v : Int} (hv : mrkB v = false) (e : M ++ v :: P = M' ++ S') (hM' : ∀ m ∈ M', mrkB m = true) : ∀ m ∈ M', m ∈ M := by
  induction M generalizing M' with
  | nil =>
    cases M' with
    | nil => intro m hm; cases hm
    | cons x u =>
      obtain ⟨rfl, _⟩ := List.cons.inj e
      have := hM' v (List.mem_cons_self ..)
      rw [hv] at this
      cases this
  | cons y t ih =>
    cases M' with
    | nil => intro m hm; cases hm
    | cons x u =>
      obtain ⟨rfl, e2⟩ := List.cons.inj e
      intro m hm
      rcases List.mem_cons.1 hm with rfl | hm
      · exact List.mem_cons_self ..
      · exact List.mem_cons_of_mem _ (ih e2 (fun m hm => hM' m (List.mem_cons_of_mem _ hm)) m hm)

/-- it is put together with its head -/
theorem inv_put {Q M P : List Int} {h r v : Int} (hI : Inv Q (M ++ h :: P)) (hM : ∀ m ∈ M, mrkB m = true) (hb : blockR r (M ++ h :: P) = false) (e : joinI h r = some v) (ha : adjR (r :: Q) = true) : Inv (r :: Q) (M ++ v :: P) := by
  obtain ⟨hv, hh, hfv, hfr, hnone⟩ := join_facts e
  obtain ⟨hf, _⟩ := hI.marks M (h :: P) rfl hM
  -- every mark behind the head is of a lower class
  have hlow : ∀ m ∈ M, cccI m < cccI r := by
    cases M with
    | nil => intro m hm; cases hm
    | cons y u =>
      have hy := hM y (List.mem_cons_self ..)
      simp only [List.cons_append, blockR, hy, Bool.true_and, decide_eq_false_iff_not] at hb
      have hall := adj_all (M := u) (fun m hm => hM m (List.mem_cons_of_mem _ hm)) hy hI.adj
      intro m hm
      rcases List.mem_cons.1 hm with rfl | hm
      · omega
      · have := hall m hm; omega
  have hmr : M ≠ [] → mrkB r = true := by
    intro hne
    cases M with
    | nil => exact absurd rfl hne
    | cons y u =>
      have := hlow y (List.mem_cons_self ..)
      have := (Prp.ccc_bounds y).1
      exact (mrk_iff r).2 (by omega)
  refine ⟨adj_put hh hv hI.adj, ?_, ?_, ?_⟩
  · -- stable
    have hP : stable (h :: P) := stable_suffix hI.sta
    have key : ∀ N : List Int, (∀ m ∈ N, mrkB m = true ∧ cccI m < cccI r) → mrkB r = true ∨ N = [] → stable (N ++ v :: P) := by
      intro N
      induction N with
      | nil =>
        intro _ _
        refine ⟨hP.1, ?_⟩
        unfold cstep
        split
        · rfl
        · have : putR (fun h => joinI h v) P = none := by
            have : ∀ L : List Int, putR (fun h => joinI h v) L = none := by
              intro L
              induction L with
              | nil => rfl
              | cons x t ih =>
                unfold putR
                rw [ih]
                simp only [hnone x]
                split <;> rfl
            exact this P
          rw [this]
          rfl
      | cons x N ih =>
        intro hN hor
        have hr : mrkB r = true := by
          rcases hor with h | h
          · exact h
          · cases h
        refine ⟨ih (fun m hm => hN m (List.mem_cons_of_mem _ hm)) (.inl hr), ?_⟩
        show cstep (N ++ v :: P) x = x :: (N ++ v :: P)
        have hx := hN x (List.mem_cons_self ..)
        unfold cstep
        split
        · rfl
        · rw [putR_head (fun m hm => (hN m (List.mem_cons_of_mem _ hm)).1) hv]
          have : joinI v x = none := by
            cases e2 : joinI v x with
            | none => rfl
            | some u =>
              have := join_twice hr e e2
              omega
          rw [this]
          rfl
    refine key M (fun m hm => ⟨hM m hm, hlow m hm⟩) ?_
    by_cases hne : M = []
    · exact .inr hne
    · exact .inl (hmr hne)
  · -- what it is made of
    have hold := hI.made
    simp only [List.reverse_append, List.reverse_cons, List.append_assoc, List.flatMap_append, List.flatMap_cons, List.flatMap_nil, List.append_nil, flat_marks hf] at hold ⊢
    rw [hfv]
    simp only [List.singleton_append, List.append_assoc] at hold ⊢
    have hgoal : orderR (P.reverse.flatMap fullI ++ (fullI h ++ (M.reverse ++ [r]))) [] = r :: Q := by
      have e3 : P.reverse.flatMap fullI ++ (fullI h ++ (M.reverse ++ [r])) = (P.reverse.flatMap fullI ++ (fullI h ++ M.reverse)) ++ [r] := by simp
      rw [e3, orderR_app, hold, orderR_one, stepR_same ha]
    by_cases hne : M = []
    · subst hne
      simpa using hgoal
    · rw [← hgoal]
      have := order_move (P.reverse.flatMap fullI ++ fullI h) [] M.reverse (hmr hne) (fun m hm => by
        have hm' := List.mem_reverse.1 hm
        exact ⟨hM m hm', by have := hlow m hm'; omega⟩) []
      simpa using this
  · intro M' S' e' hM'
    -- the marks ahead of v are among M
    have hsub := marks_front hv e' hM'
    refine ⟨fun m hm => hf m (hsub m hm), fun hne => ?_⟩
    have hMne : M ≠ [] := by
      intro e0
      subst e0
      cases M' with
      | nil => exact hne rfl
      | cons x u => cases hsub x (List.mem_cons_self ..)
    exact ⟨r, Q, rfl, hmr hMne, fun m hm => by have := hlow m (hsub m hm); omega⟩

theorem inv_step {Q R : List Int} {r : Int} (h : Inv Q R) (hr : fullI r = [r]) (ha : adjR (r :: Q) = true) : Inv (r :: Q) (cstep R r) := by
  by_cases hb : blockR r R = true
  · have e : cstep R r = r :: R := by unfold cstep; rw [if_pos hb]
    rw [e]
    exact inv_told h hr ha e
  · have hb' : blockR r R = false := by simpa using hb
    obtain ⟨M, S, rfl, hM, hS⟩ := parts R
    rcases hS with rfl | ⟨x, P, rfl, hx⟩
    · have e : cstep (M ++ []) r = r :: (M ++ []) := by
        unfold cstep
        rw [if_neg hb, List.append_nil, putR_marks hM]
        rfl
      rw [e]
      exact inv_told h hr ha e
    · cases e2 : joinI x r with
      | none =>
        have e : cstep (M ++ x :: P) r = r :: (M ++ x :: P) := by
          unfold cstep
          rw [if_neg hb, putR_head hM hx, e2]
          rfl
        rw [e]
        exact inv_told h hr ha e
      | some v =>
        have e : cstep (M ++ x :: P) r = M ++ v :: P := by
          unfold cstep
          rw [if_neg hb, putR_head hM hx, e2]
          rfl
        rw [e]
        exact inv_put h hM hb' e2 ha

theorem inv_all {l Q R : List Int} (h : Inv Q R) (hl : ∀ x ∈ l, fullI x = [x]) (ha : adjR (l.reverse ++ Q) = true) : Inv (l.reverse ++ Q) (compR l R) := by
  induction l generalizing Q R with
  | nil => exact h
  | cons x t ih =>
    rw [List.reverse_cons, List.append_assoc] at ha ⊢
    rw [compR_cons]
    change adjR (t.reverse ++ x :: Q) = true at ha
    exact ih (inv_step h (hl x (List.mem_cons_self ..)) (adj_suffix ha)) (fun y hy => hl y (List.mem_cons_of_mem _ hy)) ha

/-- what is put together is made of the same -/
theorem composes {o : List Int} (ho : sortedB o = true) (hl : ∀ x ∈ o, fullI x = [x]) :
    orderI ((composeI o).flatMap fullI) = o ∧ composeI (composeI o) = composeI o ∧ sortedB (composeI o) = true := by
  have h := inv_all inv_nil hl (by simpa [sortedB] using ho)
  rw [List.append_nil] at h
  refine ⟨?_, ?_, ?_⟩
  · unfold orderI composeI
    rw [h.made, List.reverse_reverse]
  · refine compose_same ?_
    unfold composeI
    rw [List.reverse_reverse]
    exact h.sta
  · unfold sortedB composeI
    rw [List.reverse_reverse]
    exact h.adj

theorem order_mem {l : List Int} {x : Int} (h : x ∈ orderI l) : x ∈ l := by
  have h1 := orderI_filter (cccI x) l
  have : x ∈ (orderI l).filter (fun y => decide (cccI y = cccI x)) := List.mem_filter.2 ⟨h, by simp⟩
  rw [h1] at this
  exact (List.mem_filter.1 this).1

/-- a value that is one with nothing ahead begins anew -/
theorem putR_app {f : Int → Option Int} {h : Int} (hh : mrkB h = false) (t S : List Int) : putR f (t ++ h :: S) = (putR f (t ++ [h])).map (· ++ S) := by
  induction t with
  | nil =>
    simp only [List.nil_append]
    unfold putR
    rw [hh]
    simp only [Bool.false_eq_true, if_false]
    cases f h <;> rfl
  | cons x t ih =>
    simp only [List.cons_append]
    unfold putR
    split
    · rw [ih]
      cases putR f (t ++ [h]) <;> rfl
    · cases f x <;> simp

theorem putR_end {r h : Int} (hh : mrkB h = false) {t u : List Int} (e : putR (fun h => joinI h r) (t ++ [h]) = some u) : ∃ u' h', u = u' ++ [h'] ∧ mrkB h' = false := by
  induction t generalizing u with
  | nil =>
    simp only [List.nil_append] at e
    unfold putR at e
    rw [hh] at e
    simp only [Bool.false_eq_true, if_false] at e
    cases e2 : joinI h r with
    | none => rw [e2] at e; cases e
    | some v => rw [e2] at e; obtain rfl := Option.some.inj e; exact ⟨[], v, rfl, (join_facts e2).1⟩
  | cons x t ih =>
    simp only [List.cons_append] at e
    unfold putR at e
    split at e
    · cases e2 : putR (fun h => joinI h r) (t ++ [h]) with
      | none => rw [e2] at e; cases e
      | some w =>
        rw [e2] at e
        obtain rfl := Option.some.inj e
        obtain ⟨u', h', rfl, hh'⟩ := ih e2
        exact ⟨x :: u', h', rfl, hh'⟩
    · cases e2 : joinI x r with
      | none => rw [e2] at e; cases e
      | some v => rw [e2] at e; obtain rfl := Option.some.inj e; exact ⟨v :: t, h, rfl, hh⟩

theorem block_app {r h : Int} (t S : List Int) : blockR r (t ++ h :: S) = blockR r (t ++ [h]) := by cases t <;> rfl

theorem compR_head (l : List Int) {h : Int} (hh : mrkB h = false) (t S : List Int) : compR l (t ++ h :: S) = compR l (t ++ [h]) ++ S := by
  induction l generalizing t h with
  | nil => simp [compR]
  | cons x l ih =>
    rw [compR_cons, compR_cons]
    unfold cstep
    rw [block_app, putR_app hh]
    split
    · exact ih hh (x :: t)
    · cases e : putR (fun h => joinI h x) (t ++ [h]) with
      | none => exact ih hh (x :: t)
      | some u =>
        obtain ⟨u', h', rfl, hh'⟩ := putR_end hh e
        show compR l (u' ++ [h'] ++ S) = compR l (u' ++ [h']) ++ S
        rw [List.append_assoc]
        exact ih hh' u'

theorem compose_head {h : Int} (hh : mrkB h = false) (hn : ∀ x, joinI x h = none) (a b : List Int) : composeI (a ++ h :: b) = composeI a ++ composeI (h :: b) := by
  have hput : ∀ L : List Int, putR (fun x => joinI x h) L = none := by
    intro L
    induction L with
    | nil => rfl
    | cons x t ih =>
      unfold putR
      rw [ih]
      simp only [hn x]
      split <;> rfl
  have hs : ∀ R, cstep R h = h :: R := by
    intro R
    unfold cstep
    split
    · rfl
    · rw [hput R]; rfl
  unfold composeI
  rw [compR_app, compR_cons, compR_cons, hs, hs]
  have := compR_head b hh [] (compR a [])
  simp only [List.nil_append] at this
  rw [this, List.reverse_append]

/-- a letter of ASCII is one with nothing ahead -/
theorem ascii_alone {h : Int} (h1 : h < 0x300) : mrkB h = false ∧ ∀ x, joinI x h = none := by
  have hm : mrkB h = false := (mrk_no h).2 (Dcp.ccc_low h1)
  exact ⟨hm, not_second hm (.inl (by omega))⟩

end Go.Proofs.YtkhjkodeolaemaaDoor.Can
