/- Plain mathematics: rows of a number and what stands behind it; a text of such rows, read byte by byte. -/
import Derived.Test.YtkhjkodeolaemaaDoorRows
namespace Go.Proofs.YtkhjkodeolaemaaDoor.Lk
set_option linter.unusedSimpArgs false
set_option linter.unusedVariables false

/-- the first row of a number -/
def look : List (Int × List Int) → Int → Option (List Int)
  | [], _ => none
  | s :: t, r => if s.1 = r then some s.2 else look t r

theorem look_mem {l : List (Int × List Int)} {r : Int} {p : List Int} (h : look l r = some p) : (r, p) ∈ l := by
  induction l with
  | nil => cases h
  | cons s t ih =>
    unfold look at h
    split at h
    · rename_i hh
      have : p = s.2 := by simpa using h.symm
      subst this
      subst hh
      exact List.mem_cons_self ..
    · exact List.mem_cons_of_mem _ (ih h)

theorem look_none {l : List (Int × List Int)} {r : Int} (h : ∀ s ∈ l, s.1 ≠ r) : look l r = none := by
  induction l with
  | nil => rfl
  | cons s t ih =>
    unfold look
    rw [if_neg (h s (List.mem_cons_self ..))]
    exact ih fun x hx => h x (List.mem_cons_of_mem _ hx)

/-- a hex digit's value -/
def digit (c : UInt8) : Int := if 65 ≤ c.toNat then (c.toNat : Int) - 65 + 10 else (c.toNat : Int) - 48

/-- what stands behind a number in the rest of a text; l: the numbers of the row so far, v: the number so far -/
def scan : List UInt8 → List Int → Int → Int → Option (List Int)
  | [], _, _, _ => none
  | c :: t, l, v, r =>
    if c.toNat = 61 ∨ c.toNat = 44 then scan t (l ++ [v]) 0 r
    else if c.toNat = 32 then (if (l ++ [v]).headD 0 = r then some (l ++ [v]).tail else scan t [] 0 r)
    else scan t l (v * 16 + digit c) r

def rows : List UInt8 → List Int → Int → List (Int × List Int)
  | [], _, _ => []
  | c :: t, l, v =>
    if c.toNat = 61 ∨ c.toNat = 44 then rows t (l ++ [v]) 0
    else if c.toNat = 32 then ((l ++ [v]).headD 0, (l ++ [v]).tail) :: rows t [] 0
    else rows t l (v * 16 + digit c)

theorem scan_eq (bs : List UInt8) (l : List Int) (v r : Int) : scan bs l v r = look (rows bs l v) r := by
  induction bs generalizing l v with
  | nil => rfl
  | cons c t ih =>
    unfold scan rows
    split
    · exact ih _ _
    · split
      · unfold look
        split
        · rfl
        · exact ih _ _
      · exact ih _ _

/-- how many rows, from the first on, have a smaller number -/
def pos : List (Int × List Int) → Int → Nat
  | [], _ => 0
  | s :: t, r => if s.1 < r then pos t r + 1 else 0

/-- each row's number is greater than the one's ahead -/
def upB : List (Int × List Int) → Bool
  | a :: b :: t => decide (a.1 < b.1) && upB (b :: t)
  | _ => true

theorem up_tail {s : Int × List Int} {l : List (Int × List Int)} (h : upB (s :: l) = true) : upB l = true := by
  cases l with
  | nil => rfl
  | cons b t => simp only [upB, Bool.and_eq_true] at h; exact h.2

theorem up_head {s : Int × List Int} {l : List (Int × List Int)} (h : upB (s :: l) = true) : ∀ x ∈ l, s.1 < x.1 := by
  induction l generalizing s with
  | nil => intro x hx; cases hx
  | cons b t ih =>
    intro x hx
    simp only [upB, Bool.and_eq_true, decide_eq_true_eq] at h
    rcases List.mem_cons.1 hx with rfl | hx
    · exact h.1
    · have := ih h.2 x hx
      omega

theorem up_pairs {l : List (Int × List Int)} (h : upB l = true) : l.Pairwise (fun a b => a.1 < b.1) := by
  induction l with
  | nil => exact .nil
  | cons s t ih => exact .cons (up_head h) (ih (up_tail h))

theorem pos_le (l : List (Int × List Int)) (r : Int) : pos l r ≤ l.length := by
  induction l with
  | nil => exact Nat.le_refl _
  | cons s t ih => unfold pos; split <;> simp <;> omega

theorem pos_lt_iff {l : List (Int × List Int)} (hs : upB l = true) (r : Int) (k : Nat) (hk : k < l.length) : l[k].1 < r ↔ k < pos l r := by
  induction l generalizing k with
  | nil => simp at hk
  | cons s t ih =>
    unfold pos
    cases k with
    | zero => simp only [List.getElem_cons_zero]; split <;> simp_all
    | succ k =>
      simp only [List.getElem_cons_succ]
      have hk' : k < t.length := by simpa using hk
      rw [ih (up_tail hs) k hk']
      split
      · omega
      · rename_i h
        have h1 := up_head hs t[k] (List.getElem_mem hk')
        have h3 := ih (up_tail hs) k hk'
        constructor
        · intro h4; have := h3.2 h4; omega
        · intro h4; omega

/-- what a search by halves finds -/
theorem look_yes {l : List (Int × List Int)} (hs : upB l = true) (r : Int) (hp : pos l r < l.length) (h : l[pos l r].1 = r) : look l r = some l[pos l r].2 := by
  induction l with
  | nil => simp at hp
  | cons s t ih =>
    unfold look
    by_cases h1 : s.1 < r
    · have e : pos (s :: t) r = pos t r + 1 := by rw [pos, if_pos h1]
      rw [if_neg (by omega)]
      have hp' : pos t r < t.length := by rw [e] at hp; simpa using hp
      have e2 : (s :: t)[pos (s :: t) r]'hp = t[pos t r]'hp' := by simp only [e, List.getElem_cons_succ]
      rw [e2] at h ⊢
      exact ih (up_tail hs) hp' h
    · have e : pos (s :: t) r = 0 := by rw [pos, if_neg h1]
      have e2 : (s :: t)[pos (s :: t) r]'hp = s := by simp only [e, List.getElem_cons_zero]
      rw [e2] at h ⊢
      rw [if_pos h]

theorem look_no {l : List (Int × List Int)} (hs : upB l = true) (r : Int) (h : ∀ hp : pos l r < l.length, l[pos l r].1 ≠ r) : look l r = none := by
  refine look_none fun s hsm e => ?_
  obtain ⟨k, hk, rfl⟩ := List.mem_iff_getElem.1 hsm
  by_cases h1 : k < pos l r
  · have := (pos_lt_iff hs r k hk).2 h1
    omega
  · have hp : pos l r < l.length := by omega
    have h2 := h hp
    rcases Nat.eq_or_lt_of_le (Nat.le_of_not_lt h1) with h3 | h3
    · simp only [h3] at h2; exact h2 e
    · have h4 := List.pairwise_iff_getElem.1 (up_pairs hs) _ _ hp hk h3
      have h5 : ¬ l[pos l r].1 < r := fun h => Nat.lt_irrefl _ ((pos_lt_iff hs r _ hp).1 h)
      omega

theorem look_some {l : List (Int × List Int)} (hs : upB l = true) {r : Int} {v : List Int} (h : look l r = some v) : ∃ hp : pos l r < l.length, l[pos l r].1 = r ∧ l[pos l r].2 = v := by
  by_cases hp : pos l r < l.length
  · by_cases h1 : l[pos l r].1 = r
    · rw [look_yes hs r hp h1] at h
      exact ⟨hp, h1, by simpa using h⟩
    · rw [look_no hs r (fun _ => h1)] at h
      cases h
  · rw [look_no hs r (fun h => absurd h hp)] at h
    cases h

/-- numbers of a text stay small, and each row has two at least; v: the number so far, k: how many of the row are read -/
def bdd : List UInt8 → Int → Nat → Bool
  | [], _, _ => true
  | c :: t, v, k =>
    decide (0 ≤ v) && decide (v < 1048576) &&
    (if c.toNat = 61 ∨ c.toNat = 44 then bdd t 0 (k + 1)
    else if c.toNat = 32 then decide (1 ≤ k) && bdd t 0 0
    else bdd t (v * 16 + digit c) k)

theorem scan_sep {c : UInt8} {t : List UInt8} {l : List Int} {v r : Int} (h : c.toNat = 61 ∨ c.toNat = 44) : scan (c :: t) l v r = scan t (l ++ [v]) 0 r := by rw [scan, if_pos h]
theorem scan_sp {c : UInt8} {t : List UInt8} {l : List Int} {v r : Int} (h : c.toNat = 32) : scan (c :: t) l v r = if (l ++ [v]).headD 0 = r then some (l ++ [v]).tail else scan t [] 0 r := by
  rw [scan, if_neg (by omega), if_pos h]
theorem scan_dig {c : UInt8} {t : List UInt8} {l : List Int} {v r : Int} (h1 : ¬ (c.toNat = 61 ∨ c.toNat = 44)) (h2 : ¬ c.toNat = 32) : scan (c :: t) l v r = scan t l (v * 16 + digit c) r := by
  rw [scan, if_neg h1, if_neg h2]

theorem bdd_v {c : UInt8} {t : List UInt8} {v : Int} {k : Nat} (h : bdd (c :: t) v k = true) : 0 ≤ v ∧ v < 1048576 := by
  rw [bdd] at h
  simp only [Bool.and_eq_true, decide_eq_true_eq] at h
  exact h.1
theorem bdd_sep {c : UInt8} {t : List UInt8} {v : Int} {k : Nat} (h : bdd (c :: t) v k = true) (hc : c.toNat = 61 ∨ c.toNat = 44) : bdd t 0 (k + 1) = true := by
  rw [bdd, if_pos hc] at h
  simp only [Bool.and_eq_true] at h
  exact h.2
theorem bdd_sp {c : UInt8} {t : List UInt8} {v : Int} {k : Nat} (h : bdd (c :: t) v k = true) (hc : c.toNat = 32) : 1 ≤ k ∧ bdd t 0 0 = true := by
  rw [bdd, if_neg (by omega), if_pos hc] at h
  simp only [Bool.and_eq_true, decide_eq_true_eq] at h
  exact h.2
theorem bdd_dig {c : UInt8} {t : List UInt8} {v : Int} {k : Nat} (h : bdd (c :: t) v k = true) (h1 : ¬ (c.toNat = 61 ∨ c.toNat = 44)) (h2 : ¬ c.toNat = 32) : bdd t (v * 16 + digit c) k = true := by
  rw [bdd, if_neg h1, if_neg h2] at h
  simp only [Bool.and_eq_true] at h
  exact h.2

theorem digit_bd (c : UInt8) : -48 ≤ digit c ∧ digit c ≤ 200 := by
  have := c.toNat_lt
  unfold digit
  split <;> omega

end Go.Proofs.YtkhjkodeolaemaaDoor.Lk
