/- Layer 10, plain mathematics: values without their case, and without what is dropped, in the form. -/
import Derived.Test.YtfmnecknfmgggaaGreatDoorNoM
import Derived.Test.YtfmnecknfmgggaaGreatDoorCaM
namespace Go.Proofs.YtfmnecknfmgggaaGreatDoor.Fol
set_option linter.unusedSimpArgs false
set_option linter.unusedVariables false
open Prp (drpB)
open Nor Nfk

def leftI (l : List Int) : List Int := (Cas.allI l).filter fun r => !drpB r

theorem left_app (a b : List Int) : leftI (a ++ b) = leftI a ++ leftI b := by unfold leftI; rw [Cas.all_append, List.filter_append]
theorem left_cons (r : Int) (t : List Int) : leftI (r :: t) = leftI [r] ++ leftI t := left_app [r] t

theorem rows_drop : ∀ s ∈ Cas.T, drpB s.1 = false := by decide +kernel

theorem left_dropped {r : Int} (h : drpB r = true) : leftI [r] = [] := by
  have hf : Cas.foldI r = [r] := Cas.fold_self fun s hs e => by
    have := rows_drop s hs
    rw [e, h] at this
    cases this
  unfold leftI
  have e : Cas.allI [r] = [r] := by simp [Cas.allI, hf]
  rw [e]
  simp [h]

/-- a value more that is dropped -/
theorem left_more (a b : List Int) {r : Int} (h : drpB r = true) : leftI (a ++ r :: b) = leftI (a ++ b) := by
  rw [left_app, left_cons, left_dropped h, left_app]
  rfl

theorem all_folded {l : List Int} {x : Int} (h : x ∈ Cas.allI l) : Cas.foldI x = [x] := by
  obtain ⟨y, _, hy⟩ := List.mem_flatMap.1 h
  exact Cas.fold_once y x hy

theorem left_all (l : List Int) : leftI (Cas.allI l) = leftI l := by
  unfold leftI
  rw [Cas.all_of_once fun x hx => all_folded hx]

theorem left_once (l : List Int) : leftI (leftI l) = leftI l := by
  have h : ∀ x ∈ leftI l, Cas.foldI x = [x] ∧ drpB x = false := by
    intro x hx
    have := List.mem_filter.1 hx
    exact ⟨all_folded this.1, by simpa using this.2⟩
  have e : Cas.allI (leftI l) = leftI l := Cas.all_of_once fun x hx => (h x hx).1
  show (Cas.allI (leftI l)).filter _ = _
  rw [e]
  exact List.filter_eq_self.2 fun x hx => by rw [(h x hx).2]; rfl

theorem left_len (r : Int) : (leftI [r]).length ≤ 3 := by
  have h1 := (Cas.all_len [r]).2
  have h2 := List.length_filter_le (fun r => !drpB r) (Cas.allI [r])
  simp only [List.length_cons, List.length_nil] at h1
  unfold leftI
  omega

def feedI (l : List Int) (r : Int) : List Int × List Int := feedsI (if saneB l = true then l else []) (leftI [r])

theorem kept_of (l : List Int) : Kept (if saneB l = true then l else []) := by
  split
  · rename_i h; exact sane_kept h
  · exact kept_nil

theorem feed_kept (l : List Int) (r : Int) : Kept (feedI l r).1 := by
  unfold feedI
  rw [feeds_run (kept_of l)]
  exact kept_run (kept_of l) _

theorem feed_told (l : List Int) (r : Int) : (feedI l r).2.length ≤ 130 := by
  unfold feedI
  rw [feeds_run (kept_of l)]
  have h1 := run_sum (if saneB l = true then l else []) (madeI (leftI [r]))
  have h2 := kept_len (kept_of l)
  have h3 := made_len (leftI [r])
  have h4 := left_len r
  omega

/-- values fed, one behind the other -/
def fedsI : List Int → List Int → List Int × List Int
  | l, [] => (l, [])
  | l, r :: t => ((fedsI (feedI l r).1 t).1, (feedI l r).2 ++ (fedsI (feedI l r).1 t).2)
def allI (l : List Int) : List Int := (fedsI [] l).2 ++ endI (fedsI [] l).1

theorem feds_left {l : List Int} (h : Kept l) (a : List Int) : fedsI l a = feedsI l (leftI a) := by
  induction a generalizing l with
  | nil => rfl
  | cons r t ih =>
    have ef : feedI l r = feedsI l (leftI [r]) := by unfold feedI; rw [if_pos (kept_sane h)]
    rw [left_cons, feeds_app, ← ef]
    simp only [fedsI]
    rw [ih (feed_kept l r)]

/-- value by value it is the form of what is left -/
theorem all_form (l : List Int) : allI l = nfkcI (leftI l) := by
  unfold allI
  rw [feds_left kept_nil, ← Nor.all_form]
  rfl

end Go.Proofs.YtfmnecknfmgggaaGreatDoor.Fol
