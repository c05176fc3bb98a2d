/- Layer 11, plain mathematics: where clusters end. -/
import Derived.Test.YtconccgfhdmafaaMthP
namespace Go.Proofs.Ytconccgfhdmafaa.Clu
set_option linter.unusedSimpArgs false
set_option linter.unusedVariables false
open Prp (gcbI)

/-- what is known of the values so far -/
structure CS where
  on : Bool
  kind : Int
  pict : Bool
  odd : Bool
deriving DecidableEq

def zero : CS := ⟨false, 0, false, false⟩

def saneB (s : CS) : Bool :=
  if s.on = false then decide (s = zero)
  else decide (0 ≤ s.kind) && decide (s.kind ≤ 14) && (!s.pict || decide (s.kind = 14) || decide (s.kind = 4) || decide (s.kind = 5)) && (s.pict || !decide (s.kind = 14)) && (!s.odd || decide (s.kind = 6))

/-- do two kinds stand together, whatever else? -/
def staysB (a b : Int) : Bool :=
  decide (a = 9 ∧ (b = 9 ∨ b = 10 ∨ b = 12 ∨ b = 13)) || decide ((a = 10 ∨ a = 12) ∧ (b = 10 ∨ b = 11)) || decide ((a = 11 ∨ a = 13) ∧ b = 11) || decide (b = 4 ∨ b = 5 ∨ b = 8 ∨ a = 7)

/-- does what came end ahead of a value of kind k? -/
def endsK (s : CS) (k : Int) : Bool :=
  if saneB s = false ∨ s.on = false then false
  else if s.kind = 1 ∧ k = 2 then false
  else if (1 ≤ s.kind ∧ s.kind ≤ 3) ∨ (1 ≤ k ∧ k ≤ 3) then true
  else !(staysB s.kind k || (decide (s.kind = 5) && s.pict && decide (k = 14)) || (decide (s.kind = 6) && s.odd && decide (k = 6)))
def endsI (s : CS) (r : Int) : Bool := endsK s (gcbI r)

def nextK (s0 : CS) (k : Int) : CS :=
  let s := if saneB s0 = true then s0 else zero
  ⟨true, k, decide (k = 14) || (decide (k = 4 ∨ k = 5) && s.pict && !decide (s.kind = 5)), decide (k = 6) && !s.odd⟩
def nextI (s : CS) (r : Int) : CS := nextK s (gcbI r)

def cutsI : CS → List Int → List Bool
  | _, [] => []
  | s, r :: t => endsI s r :: cutsI (nextI s r) t
/-- what is known behind some values -/
def goI (s : CS) (l : List Int) : CS := l.foldl nextI s

theorem next_sane (s : CS) (r : Int) : saneB (nextI s r) = true ∧ (nextI s r).on = true ∧ (nextI s r).kind = gcbI r := by
  have hb := Prp.gcb_bounds r
  refine ⟨?_, rfl, rfl⟩
  unfold nextI nextK saneB
  obtain ⟨k, hk⟩ : ∃ k, gcbI r = k := ⟨_, rfl⟩
  rw [hk] at hb ⊢
  generalize (if saneB s = true then s else zero) = z
  simp only [Bool.true_eq_false, if_false]
  by_cases h14 : k = 14
  · subst h14; simp
  · by_cases h4 : k = 4 ∨ k = 5
    · rcases h4 with rfl | rfl <;> simp
    · by_cases h6 : k = 6
      · subst h6; simp
      · simp [h14, h4, h6]; omega

theorem zero_sane : saneB zero = true := by decide
theorem zero_ends (r : Int) : endsI zero r = false := by unfold endsI endsK; rw [if_pos (.inr rfl)]

theorem cuts_len (s : CS) (l : List Int) : (cutsI s l).length = l.length := by
  induction l generalizing s with
  | nil => rfl
  | cons r t ih => simp [cutsI, ih]

theorem cuts_app (s : CS) (a b : List Int) : cutsI s (a ++ b) = cutsI s a ++ cutsI (goI s a) b := by
  induction a generalizing s with
  | nil => rfl
  | cons r t ih => simp only [List.cons_append, cutsI]; rw [ih]; rfl

theorem cuts_at (s : CS) (l : List Int) (i : Nat) (h : i < l.length) : (cutsI s l)[i]'(by rw [cuts_len]; exact h) = endsI (goI s (l.take i)) l[i] := by
  induction l generalizing s i with
  | nil => simp at h
  | cons r t ih =>
    cases i with
    | zero => rfl
    | succ i => simp only [cutsI, List.getElem_cons_succ, List.take_succ_cons]; exact ih (nextI s r) i (by simpa using h)

theorem go_snoc (s : CS) (l : List Int) (r : Int) : goI s (l ++ [r]) = nextI (goI s l) r := by simp [goI, List.foldl_append]

/-- behind a value its kind is known -/
theorem go_last (s : CS) (l : List Int) (i : Nat) (h : i < l.length) : ∃ z : CS, goI s (l.take (i + 1)) = nextI z l[i] ∧ saneB (goI s (l.take (i + 1))) = true ∧ (goI s (l.take (i + 1))).on = true ∧ (goI s (l.take (i + 1))).kind = gcbI l[i] := by
  have e : l.take (i + 1) = l.take i ++ [l[i]] := List.take_succ_eq_append_getElem h
  rw [e, go_snoc]
  obtain ⟨a, b, c⟩ := next_sane (goI s (l.take i)) l[i]
  exact ⟨_, rfl, a, b, c⟩

/-- between CR and LF nothing ends; ahead of and behind what controls all else does; ahead of what extends nothing does -/
theorem ends_crlf {s : CS} {k : Int} (h : s.kind = 1) (hk : k = 2) : endsK s k = false := by
  unfold endsK
  split
  · rfl
  · rw [if_pos ⟨h, hk⟩]
theorem ends_control {s : CS} {k : Int} (hs : saneB s = true) (ho : s.on = true) (hn : ¬ (s.kind = 1 ∧ k = 2)) (h : (1 ≤ s.kind ∧ s.kind ≤ 3) ∨ (1 ≤ k ∧ k ≤ 3)) : endsK s k = true := by
  unfold endsK
  rw [if_neg (by rw [hs, ho]; simp), if_neg hn, if_pos h]
theorem ends_extend {s : CS} {k : Int} (hc : ¬ (1 ≤ s.kind ∧ s.kind ≤ 3)) (h : k = 4 ∨ k = 5 ∨ k = 8) : endsK s k = false := by
  unfold endsK
  split
  · rfl
  · rw [if_neg (by omega), if_neg (by omega)]
    have : staysB s.kind k = true := by unfold staysB; rcases h with rfl | rfl | rfl <;> simp
    rw [this]
    rfl

/-- letters of flags, so many: odd as they are -/
theorem flag_step {z : CS} {r : Int} (hr : gcbI r = 6) (o : Bool) (hz : z = zero ∧ o = false ∨ z = ⟨true, 6, false, o⟩) : nextI z r = ⟨true, 6, false, !o⟩ ∧ endsI z r = (z.on && !o) := by
  unfold nextI endsI
  rw [hr]
  rcases hz with ⟨rfl, rfl⟩ | rfl
  · exact ⟨by decide, by decide⟩
  · cases o <;> exact ⟨by decide, by decide⟩

theorem flags {r : Int} (hr : gcbI r = 6) (k : Nat) : goI zero (List.replicate k r) = (if k = 0 then zero else ⟨true, 6, false, decide (k % 2 = 1)⟩) := by
  induction k with
  | zero => rfl
  | succ k ih =>
    rw [List.replicate_succ', go_snoc, ih, if_neg (Nat.succ_ne_zero k)]
    by_cases h0 : k = 0
    · subst h0
      exact (flag_step hr false (.inl ⟨rfl, rfl⟩)).1
    · rw [if_neg h0, (flag_step hr (decide (k % 2 = 1)) (.inr rfl)).1]
      congr 1
      by_cases h1 : k % 2 = 1
      · have h2 : ¬ (k + 1) % 2 = 1 := by omega
        rw [decide_eq_true h1, decide_eq_false h2]; rfl
      · have h2 : (k + 1) % 2 = 1 := by omega
        rw [decide_eq_false h1, decide_eq_true h2]; rfl

theorem flags_cut {r : Int} (hr : gcbI r = 6) (k i : Nat) (h : i < k) : (cutsI zero (List.replicate k r))[i]'(by rw [cuts_len]; simpa using h) = decide (0 < i ∧ i % 2 = 0) := by
  rw [cuts_at _ _ _ (by simpa using h)]
  have e : (List.replicate k r).take i = List.replicate i r := by rw [List.take_replicate]; congr 1; omega
  rw [e, flags hr, List.getElem_replicate]
  by_cases h0 : i = 0
  · subst h0
    rw [if_pos rfl, zero_ends]
    simp
  · rw [if_neg h0, (flag_step hr (decide (i % 2 = 1)) (.inr rfl)).2]
    by_cases h1 : i % 2 = 1
    · rw [decide_eq_true h1, decide_eq_false (by omega)]; rfl
    · rw [decide_eq_false h1, decide_eq_true (by omega)]; rfl

/-- pictures with joiners between: nowhere -/
theorem pict_step {z : CS} {r : Int} (hr : gcbI r = 14) (hz : z = zero ∨ z = ⟨true, 5, true, false⟩) : endsI z r = false ∧ nextI z r = ⟨true, 14, true, false⟩ ∧ endsI ⟨true, 14, true, false⟩ 0x200D = false ∧ nextI ⟨true, 14, true, false⟩ 0x200D = ⟨true, 5, true, false⟩ := by
  have hj : gcbI 0x200D = 5 := by decide +kernel
  unfold endsI nextI
  rw [hr, hj]
  rcases hz with rfl | rfl <;> exact ⟨by decide, by decide, by decide, by decide⟩

theorem picts {r : Int} (hr : gcbI r = 14) (k : Nat) : ∀ z, (z = zero ∨ z = ⟨true, 5, true, false⟩) → cutsI z ((List.replicate k [r, 0x200D]).flatten) = List.replicate (2 * k) false := by
  induction k with
  | zero => intro z _; rfl
  | succ k ih =>
    intro z hz
    obtain ⟨a, b, c, d⟩ := pict_step hr hz
    rw [List.replicate_succ, List.flatten_cons]
    simp only [List.cons_append, List.nil_append, cutsI]
    rw [a, b, c, d, ih _ (.inr rfl), show 2 * (k + 1) = 2 * k + 1 + 1 by omega, List.replicate_succ, List.replicate_succ]

/-- behind a letter of ASCII it does not matter what came ahead -/
theorem next_letter {x : Int} (hx : gcbI x = 0) (s : CS) : nextI s x = ⟨true, 0, false, false⟩ := by
  unfold nextI nextK
  rw [hx]
  simp

theorem rows_cut {x : Int} (hx : gcbI x = 0) (a b : List Int) : (cutsI zero (a ++ x :: b)).drop (a.length + 1) = (cutsI zero (x :: b)).drop 1 := by
  rw [cuts_app]
  have h : (cutsI zero a).length = a.length := cuts_len _ _
  rw [List.drop_append, h]
  simp only [show a.length + 1 - a.length = 1 by omega, cutsI, List.drop_succ_cons, List.drop_zero, next_letter hx]
  rw [List.drop_of_length_le (by omega), List.nil_append]

/-- a syllable is one -/
def sylKinds : List Int := [9, 10, 11, 12, 11, 13, 9, 12]
def cutsK : CS → List Int → List Bool
  | _, [] => []
  | s, k :: t => endsK s k :: cutsK (nextK s k) t
theorem cuts_kinds (l : List Int) (s : CS) : cutsI s l = cutsK s (l.map gcbI) := by
  induction l generalizing s with
  | nil => rfl
  | cons r t ih => simp only [cutsI, List.map_cons, cutsK]; rw [ih]; rfl
theorem syl_cuts {l : List Int} (h : l.map gcbI = sylKinds) : cutsI zero l = [false, false, false, true, false, true, true, false] := by
  rw [cuts_kinds, h]
  decide

end Go.Proofs.Ytconccgfhdmafaa.Clu
