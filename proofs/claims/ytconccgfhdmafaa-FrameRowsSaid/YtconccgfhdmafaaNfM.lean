/- Layer 8, plain mathematics: one form of all that are alike. -/
import Derived.Test.YtconccgfhdmafaaMthP
namespace Go.Proofs.Ytconccgfhdmafaa.Nfk
set_option linter.unusedSimpArgs false
set_option linter.unusedVariables false
open Prp (mrkB cccI)
open Dcp (fullI)
open Can

/-- the last ones of a list that are marks, read from its end; and the longest row -/
def frontB : List Bool → Nat
  | [] => 0
  | b :: t => if b then frontB t + 1 else 0
def mxB : List Bool → Nat
  | [] => 0
  | b :: t => max (frontB (b :: t)) (mxB t)

theorem mx_run (l R : List Bool) : mxB (l.reverse ++ R) = max (mxB R) (runB l (frontB R)) := by
  induction l generalizing R with
  | nil => simp [runB]
  | cons b t ih =>
    rw [List.reverse_cons, List.append_assoc]
    show mxB (t.reverse ++ b :: R) = _
    rw [ih]
    simp only [mxB, runB, frontB]
    omega

theorem marks_mx (l : List Int) : marksI l = mxB (l.reverse.map mrkB) := by
  have := mx_run (l.map mrkB) []
  simp only [List.append_nil] at this
  rw [List.map_reverse, this]
  simp [mxB, frontB, marksI]

theorem front_le {b : Bool} {R : List Bool} : mxB R ≤ mxB (b :: R) := by simp only [mxB]; omega

/-- put together, no row is longer than it was -/
theorem cstep_rows {Q R : List Int} {r : Int} (h1 : frontB (R.map mrkB) ≤ frontB (Q.map mrkB)) (h2 : mxB (R.map mrkB) ≤ mxB (Q.map mrkB)) :
    frontB ((cstep R r).map mrkB) ≤ frontB ((r :: Q).map mrkB) ∧ mxB ((cstep R r).map mrkB) ≤ mxB ((r :: Q).map mrkB) := by
  have told : frontB ((r :: R).map mrkB) ≤ frontB ((r :: Q).map mrkB) ∧ mxB ((r :: R).map mrkB) ≤ mxB ((r :: Q).map mrkB) := by
    simp only [List.map_cons, mxB, frontB]
    split <;> omega
  by_cases hb : blockR r R = true
  · have e : cstep R r = r :: R := by unfold cstep; rw [if_pos hb]
    rw [e]; exact told
  · obtain ⟨M, S, rfl, hM, hS⟩ := parts R
    rcases hS with rfl | ⟨x, P, rfl, hx⟩
    · have e : cstep (M ++ []) r = r :: (M ++ []) := by
        unfold cstep
        rw [if_neg hb, List.append_nil, putR_marks hM]
        rfl
      rw [e]; exact told
    · cases e2 : Par.joinI x r with
      | none =>
        have e : cstep (M ++ x :: P) r = r :: (M ++ x :: P) := by
          unfold cstep
          rw [if_neg hb, putR_head hM hx, e2]
          rfl
        rw [e]; exact told
      | some v =>
        have e : cstep (M ++ x :: P) r = M ++ v :: P := by
          unfold cstep
          rw [if_neg hb, putR_head hM hx, e2]
          rfl
        have hv := (join_facts e2).1
        have em : (M ++ v :: P).map mrkB = (M ++ x :: P).map mrkB := by simp [hv, hx]
        rw [e, em]
        by_cases hr : mrkB r = true
        · simp only [List.map_cons, hr, mxB, frontB] at h1 h2 ⊢
          simp only [if_true]
          omega
        · have hr' : mrkB r = false := by simpa using hr
          have hr0 := (mrk_no r).1 hr'
          cases M with
          | nil =>
            simp only [List.nil_append, List.map_cons, hx, hr', mxB, frontB] at h1 h2 ⊢
            simp only [Bool.false_eq_true, if_false] at h2 ⊢
            omega
          | cons y u =>
            have hy := hM y (List.mem_cons_self ..)
            have := (mrk_iff y).1 hy
            simp only [List.cons_append, blockR, hy, Bool.true_and, decide_eq_true_eq] at hb
            omega

theorem compR_rows (l : List Int) {Q R : List Int} (h1 : frontB (R.map mrkB) ≤ frontB (Q.map mrkB)) (h2 : mxB (R.map mrkB) ≤ mxB (Q.map mrkB)) :
    mxB ((compR l R).map mrkB) ≤ mxB ((l.reverse ++ Q).map mrkB) := by
  induction l generalizing Q R with
  | nil => exact h2
  | cons x t ih =>
    rw [compR_cons, List.reverse_cons, List.append_assoc]
    obtain ⟨g1, g2⟩ := cstep_rows (r := x) h1 h2
    exact ih g1 g2

theorem compose_marks (l : List Int) : marksI (composeI l) ≤ marksI l := by
  rw [marks_mx, marks_mx]
  unfold composeI
  rw [List.reverse_reverse]
  have := compR_rows l (Q := []) (R := []) (Nat.le_refl _) (Nat.le_refl _)
  simpa using this

/-- never more than thirty marks in a row; n are ahead -/
def safeI : List Int → Nat → List Int
  | [], _ => []
  | x :: t, n => if mrkB x = true then (if n = 30 then 847 :: x :: safeI t 1 else x :: safeI t (n + 1)) else x :: safeI t 0

def madeI (l : List Int) : List Int := l.flatMap fullI
def nfkdI (l : List Int) : List Int := orderI (safeI (madeI l) 0)
def nfkcI (l : List Int) : List Int := composeI (nfkdI l)

theorem mrk847 : mrkB 847 = false := by decide +kernel
theorem full847 : fullI 847 = [847] := by decide +kernel

theorem safe_marks (l : List Int) (n : Nat) (hn : n ≤ 30) : runB ((safeI l n).map mrkB) n ≤ 30 := by
  induction l generalizing n with
  | nil => simp [safeI, runB]
  | cons x t ih =>
    unfold safeI
    by_cases hx : mrkB x = true
    · rw [if_pos hx]
      by_cases h30 : n = 30
      · rw [if_pos h30]
        simp only [List.map_cons, runB, mrk847, hx]
        have := ih 1 (by omega)
        simp
        omega
      · rw [if_neg h30]
        simp only [List.map_cons, runB, hx]
        have := ih (n + 1) (by omega)
        simp
        omega
    · have hx' : mrkB x = false := by simpa using hx
      rw [if_neg hx]
      simp only [List.map_cons, runB, hx']
      have := ih 0 (by omega)
      simp
      exact this

theorem safe_marks0 (l : List Int) : marksI (safeI l 0) ≤ 30 := safe_marks l 0 (by omega)

theorem safe_same {l : List Int} {n : Nat} (h : runB (l.map mrkB) n ≤ 30) : safeI l n = l := by
  induction l generalizing n with
  | nil => rfl
  | cons x t ih =>
    simp only [List.map_cons, runB] at h
    unfold safeI
    by_cases hx : mrkB x = true
    · rw [if_pos hx]
      rw [hx] at h
      simp only [if_true] at h
      rw [if_neg (by omega), ih (by omega)]
    · have hx' : mrkB x = false := by simpa using hx
      rw [if_neg hx]
      rw [hx'] at h
      simp only [Bool.false_eq_true, if_false] at h
      rw [ih (by omega)]

theorem safe_same0 {l : List Int} (h : marksI l ≤ 30) : safeI l 0 = l := safe_same h

theorem safe_mem {l : List Int} {n : Nat} {x : Int} (h : x ∈ safeI l n) : x ∈ l ∨ x = 847 := by
  induction l generalizing n with
  | nil => cases h
  | cons y t ih =>
    unfold safeI at h
    split at h
    · split at h
      · rcases List.mem_cons.1 h with rfl | h
        · exact .inr rfl
        · rcases List.mem_cons.1 h with rfl | h
          · exact .inl (List.mem_cons_self ..)
          · exact (ih h).imp (List.mem_cons_of_mem _) id
      · rcases List.mem_cons.1 h with rfl | h
        · exact .inl (List.mem_cons_self ..)
        · exact (ih h).imp (List.mem_cons_of_mem _) id
    · rcases List.mem_cons.1 h with rfl | h
      · exact .inl (List.mem_cons_self ..)
      · exact (ih h).imp (List.mem_cons_of_mem _) id

theorem made_part {l : List Int} {x : Int} (h : x ∈ madeI l) : fullI x = [x] := by
  obtain ⟨y, _, hy⟩ := List.mem_flatMap.1 h
  exact Dcp.full_once y x hy

theorem made_same {l : List Int} (h : ∀ x ∈ l, fullI x = [x]) : madeI l = l := by
  induction l with
  | nil => rfl
  | cons x t ih =>
    show fullI x ++ madeI t = _
    rw [h x (List.mem_cons_self ..), ih fun y hy => h y (List.mem_cons_of_mem _ hy)]
    rfl

theorem made_once (l : List Int) : madeI (madeI l) = madeI l := made_same fun _ h => made_part h

theorem nfkd_part {l : List Int} {x : Int} (h : x ∈ nfkdI l) : fullI x = [x] := by
  rcases safe_mem (order_mem h) with h | rfl
  · exact made_part h
  · exact full847

theorem nfkd_marks (l : List Int) : marksI (nfkdI l) ≤ 30 := by
  unfold nfkdI
  rw [order_marks]
  exact safe_marks0 _

theorem nfkc_marks (l : List Int) : marksI (nfkcI l) ≤ 30 := Nat.le_trans (compose_marks _) (nfkd_marks l)

theorem nfkd_sorted (l : List Int) : sortedB (nfkdI l) = true := order_sorted _

theorem nfkd_nfkd (l : List Int) : nfkdI (nfkdI l) = nfkdI l := by
  have h : nfkdI (nfkdI l) = orderI (safeI (madeI (nfkdI l)) 0) := rfl
  rw [h, made_same fun _ h => nfkd_part h, safe_same0 (nfkd_marks l), order_same (nfkd_sorted l)]

theorem nfkc_nfkd (l : List Int) : nfkcI (nfkdI l) = nfkcI l := by
  unfold nfkcI
  rw [nfkd_nfkd]

theorem nfkd_nfkc (l : List Int) : nfkdI (nfkcI l) = nfkdI l := by
  obtain ⟨h1, _, _⟩ := composes (nfkd_sorted l) fun _ h => nfkd_part h
  have hm : marksI (madeI (nfkcI l)) = marksI (nfkdI l) := by
    rw [← order_marks (madeI (nfkcI l))]
    exact congrArg marksI h1
  have h2 : safeI (madeI (nfkcI l)) 0 = madeI (nfkcI l) := safe_same0 (by rw [hm]; exact nfkd_marks l)
  have h3 : nfkdI (nfkcI l) = orderI (safeI (madeI (nfkcI l)) 0) := rfl
  rw [h3, h2]
  exact h1

theorem nfkc_nfkc (l : List Int) : nfkcI (nfkcI l) = nfkcI l := by
  have h : nfkcI (nfkcI l) = composeI (nfkdI (nfkcI l)) := rfl
  rw [h, nfkd_nfkc]
  rfl

theorem nfkc_made (l : List Int) : nfkcI (madeI l) = nfkcI l := by
  unfold nfkcI nfkdI
  rw [made_once]

theorem made_app (a b : List Int) : madeI (a ++ b) = madeI a ++ madeI b := by simp [madeI]

/-- what has the same parts has the same form -/
theorem nfkc_alike {a b : List Int} (h : madeI a = madeI b) : nfkcI a = nfkcI b := by
  unfold nfkcI nfkdI
  rw [h]

theorem made_full (x : Int) : madeI (fullI x) = fullI x := made_same (Dcp.full_once x)

theorem alike_one (a b : List Int) (x : Int) : nfkcI (a ++ fullI x ++ b) = nfkcI (a ++ x :: b) := by
  refine nfkc_alike ?_
  rw [made_app, made_app, made_full, made_app]
  show _ = madeI a ++ (fullI x ++ madeI b)
  rw [List.append_assoc]

theorem run_le (b : List Bool) (k : Nat) : runB b k ≤ k + b.length := by
  induction b generalizing k with
  | nil => simp [runB]
  | cons x t ih =>
    simp only [runB, List.length_cons]
    cases x with
    | true => have := ih (k + 1); simp only [if_true]; omega
    | false => have := ih 0; simp only [Bool.false_eq_true, if_false]; omega

theorem run_app (a b : List Bool) (n : Nat) : runB (a ++ b) n ≤ max n (runB a n) + b.length := by
  induction a generalizing n with
  | nil => have := run_le b n; simp only [List.nil_append]; omega
  | cons x t ih =>
    simp only [List.cons_append, runB]
    cases x with
    | true => have := ih (n + 1); simp only [if_true]; omega
    | false => have := ih 0; simp only [Bool.false_eq_true, if_false]; omega

theorem marks_app (a b : List Int) : marksI (a ++ b) ≤ marksI a + b.length := by
  unfold marksI
  rw [List.map_append]
  have := run_app (a.map mrkB) (b.map mrkB) 0
  simp only [List.length_map] at this
  omega

/-- two marks of unlike classes may stand either way round -/
theorem alike_two (l : List Int) {a b : Int} (ha : mrkB a = true) (hb : mrkB b = true) (hab : cccI a ≠ cccI b) (hfa : fullI a = [a]) (hfb : fullI b = [b]) (hm : marksI (madeI l) ≤ 26) :
    nfkcI (l ++ [a, b]) = nfkcI (l ++ [b, a]) := by
  have e1 : madeI (l ++ [a, b]) = madeI l ++ [a, b] := by
    rw [made_app]
    show madeI l ++ (fullI a ++ (fullI b ++ [])) = _
    rw [hfa, hfb]
    rfl
  have e2 : madeI (l ++ [b, a]) = madeI l ++ [b, a] := by
    rw [made_app]
    show madeI l ++ (fullI b ++ (fullI a ++ [])) = _
    rw [hfa, hfb]
    rfl
  have m1 := marks_app (madeI l) [a, b]
  have m2 := marks_app (madeI l) [b, a]
  simp only [List.length_cons, List.length_nil] at m1 m2
  unfold nfkcI nfkdI
  rw [e1, e2, safe_same0 (by omega), safe_same0 (by omega)]
  unfold orderI
  rw [order_swap (madeI l) [] hab ha hb]

/-- a letter of ASCII begins anew -/
theorem safe_head {h : Int} (hh : mrkB h = false) (a b : List Int) (n : Nat) : safeI (a ++ h :: b) n = safeI a n ++ safeI (h :: b) 0 := by
  induction a generalizing n with
  | nil =>
    simp only [List.nil_append, safeI]
    rw [hh]
    simp
  | cons x t ih =>
    simp only [List.cons_append]
    unfold safeI
    split
    · split
      · rw [ih]; simp [safeI, hh]
      · rw [ih]; simp [safeI, hh]
    · rw [ih]; simp [safeI, hh]

theorem nfkd_head {h : Int} (h1 : 0 ≤ h) (h2 : h < 128) (a b : List Int) : nfkdI (a ++ h :: b) = nfkdI a ++ nfkdI (h :: b) := by
  have hm := (ascii_alone (h := h) (by omega)).1
  have hf : fullI h = [h] := Dcp.full_ascii (by omega)
  unfold nfkdI
  have e : madeI (h :: b) = h :: madeI b := by show fullI h ++ madeI b = _; rw [hf]; rfl
  rw [made_app, e, safe_head hm, ← order_split hm]
where
  order_split {h : Int} (hh : mrkB h = false) {a b : List Int} : orderI (a ++ safeI (h :: b) 0) = orderI a ++ orderI (safeI (h :: b) 0) := by
    have e : safeI (h :: b) 0 = h :: safeI b 0 := by simp [safeI, hh]
    rw [e]
    exact order_head hh a (safeI b 0)

theorem nfkc_head {h : Int} (h1 : 0 ≤ h) (h2 : h < 128) (a b : List Int) : nfkcI (a ++ h :: b) = nfkcI a ++ nfkcI (h :: b) := by
  obtain ⟨hm, hn⟩ := ascii_alone (h := h) (by omega)
  have hf : fullI h = [h] := Dcp.full_ascii (by omega)
  unfold nfkcI
  rw [nfkd_head h1 h2]
  have e : ∃ t, nfkdI (h :: b) = h :: t := by
    unfold nfkdI
    have e : madeI (h :: b) = h :: madeI b := by show fullI h ++ madeI b = _; rw [hf]; rfl
    have e2 : safeI (h :: madeI b) 0 = [] ++ h :: safeI (madeI b) 0 := by simp [safeI, hm]
    rw [e, e2]
    unfold orderI
    rw [orderR_app, orderR_cons]
    have e3 : stepR (orderR [] []) h = [h] := by unfold stepR; rw [hm]; rfl
    rw [e3]
    obtain ⟨u, hu, _⟩ := orderR_app_head hm (safeI (madeI b) 0) [] []
    simp only [List.nil_append] at hu
    rw [hu]
    exact ⟨u.reverse, by simp⟩
  obtain ⟨t, ht⟩ := e
  rw [ht]
  exact compose_head hm hn _ _

/-- what is ASCII is in the form -/
theorem ascii_form (l : List Int) (h : ∀ x ∈ l, 0 ≤ x ∧ x < 128) : nfkcI l = l := by
  induction l with
  | nil => rfl
  | cons x t ih =>
    have hx := h x (List.mem_cons_self ..)
    cases t with
    | nil =>
      obtain ⟨hm, hn⟩ := ascii_alone (h := x) (by omega)
      have hf : fullI x = [x] := Dcp.full_ascii (by omega)
      have e1 : madeI [x] = [x] := by show fullI x ++ [] = _; rw [hf]; rfl
      have e2 : safeI [x] 0 = [x] := by simp [safeI, hm]
      have e3 : orderI [x] = [x] := by simp [orderI, orderR, stepR, hm]
      have e4 : composeI [x] = [x] := by simp [composeI, compR, cstep, blockR, putR]
      unfold nfkcI nfkdI
      rw [e1, e2, e3, e4]
    | cons y u =>
      have hy := h y (List.mem_cons_of_mem _ (List.mem_cons_self ..))
      have e : x :: y :: u = [x] ++ y :: u := rfl
      have ih1 := ih fun z hz => h z (List.mem_cons_of_mem _ hz)
      have hx1 : nfkcI [x] = [x] := by
        obtain ⟨hm, hn⟩ := ascii_alone (h := x) (by omega)
        have hf : fullI x = [x] := Dcp.full_ascii (by omega)
        have e1 : madeI [x] = [x] := by show fullI x ++ [] = _; rw [hf]; rfl
        have e2 : safeI [x] 0 = [x] := by simp [safeI, hm]
        have e3 : orderI [x] = [x] := by simp [orderI, orderR, stepR, hm]
        have e4 : composeI [x] = [x] := by simp [composeI, compR, cstep, blockR, putR]
        unfold nfkcI nfkdI
        rw [e1, e2, e3, e4]
      rw [e, nfkc_head hy.1 hy.2, ih1, hx1]

theorem form_letter (l : List Int) {h : Int} (h1 : 0 ≤ h) (h2 : h < 128) : nfkcI (nfkcI l ++ [h]) = nfkcI l ++ [h] := by
  have ha : ∀ x ∈ [h], 0 ≤ x ∧ x < 128 := by
    intro x hx
    have e : x = h := by simpa using hx
    rw [e]
    exact ⟨h1, h2⟩
  rw [nfkc_head h1 h2, nfkc_nfkc, ascii_form [h] ha]

/-- what is put between: one for each thirty marks at most -/
theorem safe_len (l : List Int) (n : Nat) (hn : n ≤ 30) : l.length ≤ (safeI l n).length ∧ 30 * ((safeI l n).length - l.length) ≤ l.length + n := by
  induction l generalizing n with
  | nil => simp [safeI]
  | cons x t ih =>
    unfold safeI
    split
    · split
      · have := ih 1 (by omega)
        simp only [List.length_cons]
        omega
      · have := ih (n + 1) (by omega)
        simp only [List.length_cons]
        omega
    · have := ih 0 (by omega)
      simp only [List.length_cons]
      omega

/-- what was put between can be told from what was there -/
def lastOf : List Int → List Int → Option (List Int)
  | [], l => some l
  | a :: s, b :: l => if a = b then lastOf s l else if a = 847 then lastOf s (b :: l) else none
  | a :: s, [] => if a = 847 then lastOf s [] else none

theorem safe_last (l : List Int) (n : Nat) : lastOf (safeI l n) l = some [] := by
  induction l generalizing n with
  | nil => rfl
  | cons x t ih =>
    unfold safeI
    split
    · rename_i hx
      split
      · have hne : (847 : Int) ≠ x := by
          intro e
          rw [← e, mrk847] at hx
          cases hx
        simp only [lastOf, if_neg hne, if_true]
        exact ih 1
      · simp only [lastOf, if_true]
        exact ih _
    · simp only [lastOf, if_true]
      exact ih _

end Go.Proofs.Ytconccgfhdmafaa.Nfk
