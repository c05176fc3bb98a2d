/- Layer 12, plain mathematics: values cut into clusters, none of which is too long. -/
import Derived.Test.YtconccgfhdmafaaClM
namespace Go.Proofs.Ytconccgfhdmafaa.Sgm
set_option linter.unusedSimpArgs false
set_option linter.unusedVariables false
open Prp (gcbI)
open Clu (CS zero endsI nextI cutsI goI)

def saneB (c : List Int) (s : CS) : Bool := decide (c.length ≤ 32) && Clu.saneB s && (s.on == !c.isEmpty)

/-- what is kept (c, s), and what is told -/
def stepI (c : List Int) (s : CS) (r : Int) : (List Int × CS) × List Int :=
  if c ≠ [] ∧ (endsI s r = true ∨ c.length = 32) then (([r], nextI s r), c) else ((c ++ [r], nextI s r), [])
def feedI (c : List Int) (s : CS) (r : Int) : (List Int × CS) × List Int := if saneB c s = true then stepI c s r else stepI [] zero r
def endI (c : List Int) (s : CS) : List Int := if saneB c s = true then c else []

/-- the clusters, where c is open -/
def segs : List Int → CS → List Int → List (List Int)
  | c, _, [] => if c = [] then [] else [c]
  | c, s, r :: t => if c ≠ [] ∧ (endsI s r = true ∨ c.length = 32) then c :: segs [r] (nextI s r) t else segs (c ++ [r]) (nextI s r) t
def allI (l : List Int) : List (List Int) := segs [] zero l

theorem segs_cons (c : List Int) (s : CS) (r : Int) (t : List Int) : segs c s (r :: t) = if c ≠ [] ∧ (endsI s r = true ∨ c.length = 32) then c :: segs [r] (nextI s r) t else segs (c ++ [r]) (nextI s r) t := by rw [segs]

theorem step_sane {c : List Int} {s : CS} {r : Int} (h : c.length ≤ 32) (hs : c = [] → endsI s r = false) : saneB (stepI c s r).1.1 (stepI c s r).1.2 = true := by
  obtain ⟨a, b, _⟩ := Clu.next_sane s r
  unfold stepI
  split
  · rename_i hc
    unfold saneB
    simp only [a, b]
    simp
  · rename_i hc
    have hl : (c ++ [r]).length ≤ 32 := by
      by_cases h0 : c = []
      · subst h0; simp
      · have : ¬ c.length = 32 := fun h32 => hc ⟨h0, .inr h32⟩
        simp; omega
    unfold saneB
    simp only [a, b, decide_eq_true hl]
    simp

theorem feed_sane (c : List Int) (s : CS) (r : Int) : saneB (feedI c s r).1.1 (feedI c s r).1.2 = true := by
  unfold feedI
  split
  · rename_i h
    unfold saneB at h
    simp only [Bool.and_eq_true, decide_eq_true_eq, beq_iff_eq] at h
    refine step_sane h.1.1 fun h0 => ?_
    subst h0
    have hon : s.on = false := by simpa using h.2
    unfold endsI Clu.endsK
    rw [if_pos (.inr hon)]
  · exact step_sane (by simp) fun _ => Clu.zero_ends r

/-- none is empty or too long; one behind the other they are the values -/
theorem segs_join (c : List Int) (s : CS) (l : List Int) (hc : c.length ≤ 32) : (segs c s l).flatten = c ++ l ∧ ∀ x ∈ segs c s l, 1 ≤ x.length ∧ x.length ≤ 32 := by
  induction l generalizing c s with
  | nil =>
    unfold segs
    split
    · rename_i h; subst h; simp
    · rename_i h
      have : 1 ≤ c.length := by cases c with
        | nil => exact absurd rfl h
        | cons a t => simp
      refine ⟨by simp, fun x hx => ?_⟩
      obtain rfl : x = c := by simpa using hx
      exact ⟨this, hc⟩
  | cons r t ih =>
    unfold segs
    split
    · rename_i h
      have : 1 ≤ c.length := by cases c with
        | nil => exact absurd rfl h.1
        | cons a t => simp
      obtain ⟨h1, h2⟩ := ih [r] (nextI s r) (by simp)
      refine ⟨by rw [List.flatten_cons, h1]; simp, fun x hx => ?_⟩
      rcases List.mem_cons.1 hx with rfl | hx
      · exact ⟨this, hc⟩
      · exact h2 x hx
    · rename_i h
      have hl : (c ++ [r]).length ≤ 32 := by
        by_cases h0 : c = []
        · subst h0; simp
        · have : ¬ c.length = 32 := fun h32 => h ⟨h0, .inr h32⟩
          simp; omega
      obtain ⟨h1, h2⟩ := ih (c ++ [r]) (nextI s r) hl
      exact ⟨by rw [h1]; simp, h2⟩

theorem all_join (l : List Int) : (allI l).flatten = l ∧ ∀ x ∈ allI l, 1 ≤ x.length ∧ x.length ≤ 32 := segs_join [] zero l (by simp)

/-- each cluster, but the first one, begins where it is said, or behind one that is full; nowhere else is it said; full: is the one ahead full, or none? -/
def okCuts : List (List Int) → Bool → List Bool → Bool
  | [], _, cs => cs.isEmpty
  | x :: t, full, cs =>
    (match cs with
    | [] => false
    | f :: cs' => (full || f) && decide (x.length - 1 ≤ cs'.length) && (cs'.take (x.length - 1)).all (fun b => !b) && okCuts t (decide (x.length = 32)) (cs'.drop (x.length - 1)))

theorem segs_cuts (c : List Int) (s : CS) (l : List Int) (hc : c ≠ []) : ∃ u rest, segs c s l = (c ++ u) :: rest ∧ u.length ≤ (cutsI s l).length ∧ ((cutsI s l).take u.length).all (fun b => !b) = true ∧ okCuts rest (decide ((c ++ u).length = 32)) ((cutsI s l).drop u.length) = true := by
  induction l generalizing c s with
  | nil => exact ⟨[], [], by unfold segs; rw [if_neg hc]; simp, by simp, by simp, by simp [cutsI, okCuts]⟩
  | cons r t ih =>
    unfold segs
    split
    · rename_i h
      obtain ⟨u, rest, h1, h2, h3, h4⟩ := ih [r] (nextI s r) (by simp)
      refine ⟨[], ([r] ++ u) :: rest, by rw [h1]; simp, by simp, by simp, ?_⟩
      simp only [List.length_nil, List.drop_zero, cutsI, List.append_nil, okCuts, Bool.and_eq_true, decide_eq_true_eq, Bool.or_eq_true]
      have hlen : ([r] ++ u).length - 1 = u.length := by simp
      rw [hlen]
      exact ⟨⟨⟨h.2.symm.imp id id, h2⟩, h3⟩, h4⟩
    · rename_i h
      obtain ⟨u, rest, h1, h2, h3, h4⟩ := ih (c ++ [r]) (nextI s r) (by simp)
      have he : endsI s r = false := by
        by_cases e : endsI s r = true
        · exact absurd ⟨hc, .inl e⟩ h
        · simpa using e
      refine ⟨r :: u, rest, by rw [h1]; simp, ?_, ?_, ?_⟩
      · simp only [cutsI, List.length_cons]; omega
      · simp only [cutsI, List.length_cons, List.take_succ_cons, List.all_cons, he, h3]; rfl
      · simp only [cutsI, List.length_cons, List.drop_succ_cons]
        rw [show c ++ r :: u = c ++ [r] ++ u by simp]
        exact h4

theorem all_cuts (l : List Int) : okCuts (allI l) true (cutsI zero l) = true := by
  cases l with
  | nil => rfl
  | cons r t =>
    have e : allI (r :: t) = segs [r] (nextI zero r) t := by
      unfold allI
      rw [segs_cons, if_neg (by simp)]
      rfl
    obtain ⟨u, rest, h1, h2, h3, h4⟩ := segs_cuts [r] (nextI zero r) t (by simp)
    rw [e, h1]
    have hlen : ([r] ++ u).length - 1 = u.length := by simp
    simp only [cutsI, okCuts, hlen, Bool.true_or, Bool.true_and, decide_eq_true h2, h3, h4, Bool.and_self]

/-- what is told of a list, cluster by cluster: those that are told, and what is open -/
def runI : List Int → CS → List Int → List (List Int) × (List Int × CS)
  | c, s, [] => ([], (c, s))
  | c, s, r :: t => if c ≠ [] ∧ (endsI s r = true ∨ c.length = 32) then (c :: (runI [r] (nextI s r) t).1, (runI [r] (nextI s r) t).2) else runI (c ++ [r]) (nextI s r) t

theorem run_cons (c : List Int) (s : CS) (r : Int) (t : List Int) : runI c s (r :: t) = if c ≠ [] ∧ (endsI s r = true ∨ c.length = 32) then (c :: (runI [r] (nextI s r) t).1, (runI [r] (nextI s r) t).2) else runI (c ++ [r]) (nextI s r) t := by rw [runI]

theorem segs_run (c : List Int) (s : CS) (a b : List Int) : segs c s (a ++ b) = (runI c s a).1 ++ segs (runI c s a).2.1 (runI c s a).2.2 b := by
  induction a generalizing c s with
  | nil => rfl
  | cons r t ih =>
    rw [List.cons_append, segs_cons, run_cons]
    split
    · rw [ih]; rfl
    · rw [ih]

theorem run_open (c : List Int) (s : CS) (l : List Int) (h : c ≠ [] ∨ l ≠ []) : (runI c s l).2.1 ≠ [] := by
  induction l generalizing c s with
  | nil => simpa [runI] using h
  | cons r t ih =>
    unfold runI
    split
    · exact ih _ _ (.inl (by simp))
    · exact ih _ _ (.inl (by simp))

theorem segs_front (c : List Int) (s : CS) (l : List Int) (hc : c ≠ []) : ∃ u rest, segs c s l = (c ++ u) :: rest := by
  obtain ⟨u, rest, h, _⟩ := segs_cuts c s l hc
  exact ⟨u, rest, h⟩

/-- what was told is told: the clusters of a beginning, but its last one, are the first ones of the whole; the next one begins with that last one -/
theorem all_begins (a b : List Int) (ha : a ≠ []) : ∃ p x u rest, allI a = p ++ [x] ∧ allI (a ++ b) = p ++ (x ++ u) :: rest := by
  have ho := run_open [] zero a (.inr ha)
  have e := segs_run [] zero a []
  rw [List.append_nil] at e
  have e2 : segs (runI [] zero a).2.1 (runI [] zero a).2.2 [] = [(runI [] zero a).2.1] := by unfold segs; rw [if_neg ho]
  rw [e2] at e
  obtain ⟨u, rest, h⟩ := segs_front _ (runI [] zero a).2.2 b ho
  exact ⟨_, _, u, rest, e, by unfold allI; rw [segs_run, h]⟩

/-- a mark joins -/
theorem mark_join {s : CS} {m : Int} (hs : Clu.saneB s = true) (ho : s.on = true) (hc : ¬ (1 ≤ s.kind ∧ s.kind ≤ 3)) (hm : gcbI m = 4) : endsI s m = false ∧ (nextI s m).kind = 4 := by
  have h := Clu.next_sane s m
  exact ⟨by unfold endsI; rw [hm]; exact Clu.ends_extend hc (.inl rfl), by rw [h.2.2, hm]⟩

/-- how long the clusters of so many values are that all join -/
def sizes : Nat → Nat → List Nat
  | 0, c => [c]
  | n + 1, c => if c = 32 then 32 :: sizes n 1 else sizes n (c + 1)

theorem marks_sizes {m : Int} (hm : gcbI m = 4) (n : Nat) : ∀ (c : List Int) (s : CS), c ≠ [] → Clu.saneB s = true → s.on = true → ¬ (1 ≤ s.kind ∧ s.kind ≤ 3) →
    ((runI c s (List.replicate n m)).1.map List.length) ++ [(runI c s (List.replicate n m)).2.1.length] = sizes n c.length ∧
    Clu.saneB (runI c s (List.replicate n m)).2.2 = true ∧ (runI c s (List.replicate n m)).2.2.on = true ∧ ((runI c s (List.replicate n m)).2.2.kind = s.kind ∨ (runI c s (List.replicate n m)).2.2.kind = 4) := by
  induction n with
  | zero => intro c s _ h1 h2 _; exact ⟨rfl, h1, h2, .inl rfl⟩
  | succ n ih =>
    intro c s hc h1 h2 h3
    obtain ⟨e, hk⟩ := mark_join h1 h2 h3 hm
    obtain ⟨a, b, _⟩ := Clu.next_sane s m
    have hk3 : ¬ (1 ≤ (nextI s m).kind ∧ (nextI s m).kind ≤ 3) := by omega
    rw [List.replicate_succ]
    unfold runI sizes
    by_cases h32 : c.length = 32
    · rw [if_pos ⟨hc, .inr h32⟩, if_pos h32]
      obtain ⟨g1, g2, g3, g4⟩ := ih [m] (nextI s m) (by simp) a b hk3
      refine ⟨?_, g2, g3, ?_⟩
      · simp only [List.map_cons, h32, List.cons_append]
        rw [g1]
        rfl
      · right
        rcases g4 with g | g
        · rw [g, hk]
        · exact g
    · rw [if_neg (by rw [e]; simp [h32]), if_neg h32]
      obtain ⟨g1, g2, g3, g4⟩ := ih (c ++ [m]) (nextI s m) (by simp) a b hk3
      refine ⟨?_, g2, g3, ?_⟩
      · rw [g1]; simp
      · right
        rcases g4 with g | g
        · rw [g, hk]
        · exact g

end Go.Proofs.Ytconccgfhdmafaa.Sgm
