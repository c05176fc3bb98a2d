/- Layer 7, plain mathematics: marks in their order. Lists stand the other way round (the last one first) while they grow. -/
import Derived.Test.YtkhjkodeolaemaaDoorDeM
namespace Go.Proofs.YtkhjkodeolaemaaDoor.Can
set_option linter.unusedSimpArgs false
set_option linter.unusedVariables false
open Prp (mrkB cccI)

/-- a mark, where it is to be among those that a list ends with -/
def insR (r : Int) : List Int → List Int
  | [] => [r]
  | x :: t => if mrkB x = true ∧ cccI r < cccI x then x :: insR r t else r :: x :: t

def stepR (R : List Int) (r : Int) : List Int := if mrkB r = true then insR r R else r :: R
def orderR (l R : List Int) : List Int := l.foldl stepR R
def orderI (l : List Int) : List Int := (orderR l []).reverse

theorem mrk_iff (r : Int) : mrkB r = true ↔ 0 < cccI r := by unfold mrkB; simp
theorem mrk_no (r : Int) : mrkB r = false ↔ cccI r = 0 := by
  have := (Prp.ccc_bounds r).1
  unfold mrkB
  simp
  omega

theorem orderR_app (a b R : List Int) : orderR (a ++ b) R = orderR b (orderR a R) := by simp [orderR, List.foldl_append]
theorem orderR_cons (x : Int) (b R : List Int) : orderR (x :: b) R = orderR b (stepR R x) := rfl
theorem orderR_one (x : Int) (R : List Int) : orderR [x] R = stepR R x := rfl

theorem insR_len (r : Int) (R : List Int) : (insR r R).length = R.length + 1 := by
  induction R with
  | nil => rfl
  | cons x t ih => unfold insR; split <;> simp [ih]

theorem stepR_len (R : List Int) (r : Int) : (stepR R r).length = R.length + 1 := by
  unfold stepR; split
  · exact insR_len r R
  · rfl

theorem orderR_len (l R : List Int) : (orderR l R).length = l.length + R.length := by
  induction l generalizing R with
  | nil => simp [orderR]
  | cons x t ih => rw [orderR_cons, ih, stepR_len]; simp; omega

theorem orderI_len (l : List Int) : (orderI l).length = l.length := by simp [orderI, orderR_len]

/-- marks of unlike classes may come in either order -/
theorem insR_comm {x y : Int} (h : cccI x ≠ cccI y) (hx : mrkB x = true) (hy : mrkB y = true) (R : List Int) : insR y (insR x R) = insR x (insR y R) := by
  induction R with
  | nil =>
    simp only [insR, hx, hy, true_and]
    split <;> split <;> first | rfl | omega
  | cons z t ih =>
    by_cases h1 : mrkB z = true ∧ cccI x < cccI z
    · by_cases h2 : mrkB z = true ∧ cccI y < cccI z
      · rw [insR, if_pos h1, insR, if_pos h2, ih, insR, if_pos h2, insR, if_pos h1]
      · have h3 : ¬ (mrkB y = true ∧ cccI x < cccI y → False) := by
          intro h3
          have : ¬ cccI y < cccI z := fun h4 => h2 ⟨h1.1, h4⟩
          exact h3 ⟨hy, by omega⟩
        have h4 : mrkB y = true ∧ cccI x < cccI y := Classical.not_not.1 h3
        rw [insR, if_pos h1, insR, if_neg h2, insR, if_neg h2, insR, if_pos h4, insR, if_pos h1]
    · by_cases h2 : mrkB z = true ∧ cccI y < cccI z
      · have h4 : mrkB x = true ∧ cccI y < cccI x := by
          have : ¬ cccI x < cccI z := fun h5 => h1 ⟨h2.1, h5⟩
          exact ⟨hx, by omega⟩
        rw [insR, if_neg h1, insR, if_pos h4, insR, if_pos h2, insR, if_neg h1]
      · rw [insR, if_neg h1]
        conv => rhs; rw [insR, if_neg h2]
        by_cases h5 : cccI x < cccI y
        · rw [insR, if_neg (by omega), insR, if_pos ⟨hy, h5⟩, insR, if_neg h1]
        · rw [insR, if_pos ⟨hx, by omega⟩, insR, if_neg h2]
          conv => rhs; rw [insR, if_neg (by omega)]

theorem order_swap (A B : List Int) {x y : Int} (h : cccI x ≠ cccI y) (hx : mrkB x = true) (hy : mrkB y = true) (R : List Int) : orderR (A ++ x :: y :: B) R = orderR (A ++ y :: x :: B) R := by
  simp only [orderR_app, orderR_cons, stepR, if_pos hx, if_pos hy]
  rw [insR_comm h hx hy]

/-- a mark goes through marks of other classes -/
theorem order_move (A B M : List Int) {r : Int} (hr : mrkB r = true) (hM : ∀ m ∈ M, mrkB m = true ∧ cccI m ≠ cccI r) (R : List Int) : orderR (A ++ r :: (M ++ B)) R = orderR (A ++ (M ++ r :: B)) R := by
  induction M generalizing A with
  | nil => rfl
  | cons m M ih =>
    have hm := hM m (List.mem_cons_self ..)
    rw [List.cons_append, order_swap A (M ++ B) (fun e => hm.2 e.symm) hr hm.1]
    have := ih (A ++ [m]) (fun x hx => hM x (List.mem_cons_of_mem _ hx))
    simpa using this

/-- which are marks stays as it was -/
theorem insR_map {r : Int} (hr : mrkB r = true) (R : List Int) : (insR r R).map mrkB = true :: R.map mrkB := by
  induction R with
  | nil => simp [insR, hr]
  | cons x t ih =>
    unfold insR
    split
    · rename_i h; simp [ih, h.1]
    · simp [hr]

theorem stepR_map (R : List Int) (r : Int) : (stepR R r).map mrkB = mrkB r :: R.map mrkB := by
  unfold stepR
  split
  · rename_i h; rw [insR_map h, h]
  · rfl

theorem orderR_map (l R : List Int) : (orderR l R).map mrkB = (l.map mrkB).reverse ++ R.map mrkB := by
  induction l generalizing R with
  | nil => simp [orderR]
  | cons x t ih => rw [orderR_cons, ih, stepR_map]; simp

theorem orderI_map (l : List Int) : (orderI l).map mrkB = l.map mrkB := by
  rw [orderI, List.map_reverse, orderR_map]
  simp

/-- of one class they stand as they stood -/
theorem insR_filter (c r : Int) (R : List Int) : (insR r R).filter (fun x => decide (cccI x = c)) = (r :: R).filter (fun x => decide (cccI x = c)) := by
  induction R with
  | nil => rfl
  | cons x t ih =>
    unfold insR
    split
    · rename_i h
      simp only [List.filter_cons] at ih ⊢
      by_cases h1 : cccI x = c
      · by_cases h2 : cccI r = c
        · omega
        · simp [h1, h2, ih]
      · simp [h1, ih]
    · rfl

theorem orderR_filter (c : Int) (l R : List Int) : (orderR l R).filter (fun x => decide (cccI x = c)) = (l.filter (fun x => decide (cccI x = c))).reverse ++ R.filter (fun x => decide (cccI x = c)) := by
  induction l generalizing R with
  | nil => simp [orderR]
  | cons x t ih =>
    rw [orderR_cons, ih]
    have : (stepR R x).filter (fun x => decide (cccI x = c)) = (x :: R).filter (fun x => decide (cccI x = c)) := by
      unfold stepR
      split
      · exact insR_filter c x R
      · rfl
    rw [this]
    simp only [List.filter_cons]
    split <;> simp

theorem orderI_filter (c : Int) (l : List Int) : (orderI l).filter (fun x => decide (cccI x = c)) = l.filter (fun x => decide (cccI x = c)) := by
  rw [orderI, List.filter_reverse, orderR_filter]
  simp

/-- two lists that have the same marks' places, and the same values that are none, have these at the same places -/
theorem same_places {a b : List Int} (hm : a.map mrkB = b.map mrkB) (hf : a.filter (fun x => decide (cccI x = 0)) = b.filter (fun x => decide (cccI x = 0))) (i : Nat) (h1 : i < a.length) (h2 : i < b.length) (h : mrkB b[i] = false) : a[i] = b[i] := by
  induction a generalizing b i with
  | nil => simp at h1
  | cons x s ih =>
    cases b with
    | nil => simp at h2
    | cons y t =>
      simp only [List.map_cons, List.cons.injEq] at hm
      by_cases hx : mrkB x = true
      · have hy : mrkB y = true := by rw [← hm.1]; exact hx
        have hx0 : ¬ cccI x = 0 := by have := (mrk_iff x).1 hx; omega
        have hy0 : ¬ cccI y = 0 := by have := (mrk_iff y).1 hy; omega
        simp only [List.filter_cons, decide_eq_true_eq, if_neg hx0, if_neg hy0] at hf
        cases i with
        | zero => simp only [List.getElem_cons_zero] at h; rw [hy] at h; cases h
        | succ i => exact ih hm.2 hf i (by simpa using h1) (by simpa using h2) (by simpa using h)
      · have hx' : mrkB x = false := by simpa using hx
        have hy : mrkB y = false := by rw [← hm.1]; exact hx'
        have hx0 : cccI x = 0 := (mrk_no x).1 hx'
        have hy0 : cccI y = 0 := (mrk_no y).1 hy
        simp only [List.filter_cons, decide_eq_true_eq, if_pos hx0, if_pos hy0, List.cons.injEq] at hf
        cases i with
        | zero => exact hf.1
        | succ i => exact ih hm.2 hf.2 i (by simpa using h1) (by simpa using h2) (by simpa using h)

theorem orderI_place (l : List Int) (i : Nat) (h : i < l.length) (hm : mrkB l[i] = false) : (orderI l)[i]'(by rw [orderI_len]; exact h) = l[i] :=
  same_places (orderI_map l) (orderI_filter 0 l) i _ h hm

/-- in order, read from the last one on -/
def adjR : List Int → Bool
  | a :: b :: t => !(mrkB a && mrkB b && decide (cccI a < cccI b)) && adjR (b :: t)
  | _ => true

theorem adj_cons {a : Int} {R : List Int} : adjR (a :: R) = true ↔ (∀ b t, R = b :: t → mrkB a = true → mrkB b = true → cccI b ≤ cccI a) ∧ adjR R = true := by
  cases R with
  | nil => simp [adjR]
  | cons b t =>
    simp only [adjR, Bool.and_eq_true, Bool.not_eq_true', Bool.and_eq_false_iff, decide_eq_false_iff_not]
    constructor
    · rintro ⟨h, h2⟩
      refine ⟨fun b' t' e ha hb => ?_, h2⟩
      obtain ⟨rfl, rfl⟩ := List.cons.inj e
      rcases h with (h | h) | h
      · rw [ha] at h; cases h
      · rw [hb] at h; cases h
      · omega
    · rintro ⟨h, h2⟩
      refine ⟨?_, h2⟩
      by_cases ha : mrkB a = true
      · by_cases hb : mrkB b = true
        · have := h b t rfl ha hb
          exact .inr (by omega)
        · exact .inl (.inr (by simpa using hb))
      · exact .inl (.inl (by simpa using ha))

theorem adj_tail {a : Int} {R : List Int} (h : adjR (a :: R) = true) : adjR R = true := (adj_cons.1 h).2

theorem insR_head (r : Int) (R : List Int) : ∃ b t, insR r R = b :: t ∧ (b = r ∨ ∃ s, R = b :: s ∧ mrkB b = true ∧ cccI r < cccI b) := by
  cases R with
  | nil => exact ⟨r, [], rfl, .inl rfl⟩
  | cons x t =>
    unfold insR
    split
    · rename_i h; exact ⟨x, _, rfl, .inr ⟨t, rfl, h⟩⟩
    · exact ⟨r, _, rfl, .inl rfl⟩

theorem insR_adj {r : Int} {R : List Int} (h : adjR R = true) : adjR (insR r R) = true := by
  induction R with
  | nil => rfl
  | cons x t ih =>
    unfold insR
    split
    · rename_i hx
      refine adj_cons.2 ⟨fun b s e _ hb => ?_, ih (adj_tail h)⟩
      obtain ⟨b', s', e', hb'⟩ := insR_head r t
      rw [e] at e'
      obtain ⟨rfl, rfl⟩ := List.cons.inj e'
      rcases hb' with rfl | ⟨u, rfl, hbm, _⟩
      · omega
      · exact (adj_cons.1 h).1 b u rfl hx.1 hbm
    · rename_i hx
      refine adj_cons.2 ⟨fun b s e hr hb => ?_, h⟩
      obtain ⟨rfl, rfl⟩ := List.cons.inj e
      have : ¬ cccI r < cccI x := fun h4 => hx ⟨hb, h4⟩
      omega

theorem stepR_adj {R : List Int} {r : Int} (h : adjR R = true) : adjR (stepR R r) = true := by
  unfold stepR
  split
  · exact insR_adj h
  · rename_i hr
    exact adj_cons.2 ⟨fun _ _ _ h1 _ => absurd h1 hr, h⟩

theorem orderR_adj {l R : List Int} (h : adjR R = true) : adjR (orderR l R) = true := by
  induction l generalizing R with
  | nil => exact h
  | cons x t ih => exact ih (stepR_adj h)

/-- what is in order stays -/
theorem stepR_same {R : List Int} {r : Int} (h : adjR (r :: R) = true) : stepR R r = r :: R := by
  unfold stepR
  split
  · rename_i hr
    cases R with
    | nil => rfl
    | cons x t =>
      unfold insR
      rw [if_neg]
      rintro ⟨h1, h2⟩
      have := (adj_cons.1 h).1 x t rfl hr h1
      omega
  · rfl

theorem adj_suffix {a R : List Int} (h : adjR (a ++ R) = true) : adjR R = true := by
  induction a with
  | nil => exact h
  | cons x t ih => exact ih (adj_tail h)

theorem orderR_same {l R : List Int} (h : adjR (l.reverse ++ R) = true) : orderR l R = l.reverse ++ R := by
  induction l generalizing R with
  | nil => rfl
  | cons x t ih =>
    rw [List.reverse_cons, List.append_assoc] at h ⊢
    change adjR (t.reverse ++ x :: R) = true at h
    rw [orderR_cons, stepR_same (adj_suffix h)]
    exact ih h

/-- in order -/
def sortedB (l : List Int) : Bool := adjR l.reverse

theorem order_sorted (l : List Int) : sortedB (orderI l) = true := by
  unfold sortedB orderI
  rw [List.reverse_reverse]
  exact orderR_adj rfl

theorem order_same {l : List Int} (h : sortedB l = true) : orderI l = l := by
  unfold sortedB at h
  unfold orderI
  rw [orderR_same (by simpa using h)]
  simp

theorem order_once (l : List Int) : orderI (orderI l) = orderI l := order_same (order_sorted l)

theorem sorted_iff (l : List Int) : sortedB l = decide (orderI l = l) := by
  by_cases h : sortedB l = true
  · rw [h, decide_eq_true (order_same h)]
  · have h' : sortedB l = false := by simpa using h
    rw [h', decide_eq_false]
    intro e
    rw [← e, order_sorted] at h'
    cases h'

/-- a value that is no mark begins anew -/
theorem insR_app {h : Int} (hh : mrkB h = false) (r : Int) (t S : List Int) : insR r (t ++ h :: S) = insR r (t ++ [h]) ++ S := by
  induction t with
  | nil => simp [insR, hh]
  | cons x t ih =>
    simp only [List.cons_append]
    unfold insR
    split
    · rw [ih]; rfl
    · simp

theorem orderR_app_head {h : Int} (hh : mrkB h = false) (l t S : List Int) : ∃ u, orderR l (t ++ [h]) = u ++ [h] ∧ orderR l (t ++ h :: S) = u ++ h :: S := by
  induction l generalizing t with
  | nil => exact ⟨t, rfl, rfl⟩
  | cons x l ih =>
    have key : ∃ u, stepR (t ++ [h]) x = u ++ [h] ∧ stepR (t ++ h :: S) x = u ++ h :: S := by
      unfold stepR
      split
      · rename_i hx
        have : ∃ u, insR x (t ++ [h]) = u ++ [h] := by
          clear ih
          induction t with
          | nil => exact ⟨[x], by simp [insR, hh]⟩
          | cons y t ih =>
            simp only [List.cons_append]
            unfold insR
            split
            · obtain ⟨u, hu⟩ := ih; exact ⟨y :: u, by rw [hu]; rfl⟩
            · exact ⟨x :: y :: t, rfl⟩
        obtain ⟨u, hu⟩ := this
        exact ⟨u, hu, by rw [insR_app hh, hu]; simp⟩
      · exact ⟨x :: t, rfl, rfl⟩
    obtain ⟨u, h1, h2⟩ := key
    rw [orderR_cons, orderR_cons, h1, h2]
    exact ih u

theorem order_head {h : Int} (hh : mrkB h = false) (a b : List Int) : orderI (a ++ h :: b) = orderI a ++ orderI (h :: b) := by
  unfold orderI
  rw [orderR_app, orderR_cons, orderR_cons]
  have e : ∀ R, stepR R h = h :: R := fun R => by unfold stepR; rw [hh]; rfl
  rw [e, e]
  obtain ⟨u, h1, h2⟩ := orderR_app_head hh b [] (orderR a [])
  simp only [List.nil_append] at h1 h2
  rw [h1, h2]
  simp

/-- how many the longest row has: n are ahead -/
def runB : List Bool → Nat → Nat
  | [], _ => 0
  | b :: t, n => max (if b then n + 1 else 0) (runB t (if b then n + 1 else 0))

def marksI (l : List Int) : Nat := runB (l.map mrkB) 0

theorem order_marks (l : List Int) : marksI (orderI l) = marksI l := by unfold marksI; rw [orderI_map]

end Go.Proofs.YtkhjkodeolaemaaDoor.Can
