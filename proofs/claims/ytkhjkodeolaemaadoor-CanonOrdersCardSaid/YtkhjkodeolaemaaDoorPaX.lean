/- Layer 5, plain mathematics: the code's own text of pairs, in order, and a search in it. -/
import Derived.Test.YtkhjkodeolaemaaDoorPaM
import Derived.Test.YtkhjkodeolaemaaDoorDeX
namespace Go.Proofs.YtkhjkodeolaemaaDoor.Par
set_option linter.unusedSimpArgs false
set_option linter.unusedVariables false

/-- the numbers of row k of a text of rows of 15 signs -/
def numAt (l : List UInt8) (k n : Nat) : Int := Dcp.numF ((l.drop (k * 15 + n * 5)).take 4)

def hexB (c : UInt8) : Bool := (decide (48 ≤ c.toNat) && decide (c.toNat ≤ 57)) || (decide (65 ≤ c.toNat) && decide (c.toNat ≤ 70))

def okRow (l : List UInt8) (s : Int × Int × Int) : Bool :=
  decide (Dcp.numF (l.take 4) = s.1) && decide (Dcp.numF ((l.drop 5).take 4) = s.2.1) && decide (Dcp.numF ((l.drop 10).take 4) = s.2.2)
  && (l.take 4).all hexB && ((l.drop 5).take 4).all hexB && ((l.drop 10).take 4).all hexB

def okAll : List UInt8 → List (Int × Int × Int) → Bool
  | l, [] => l.isEmpty
  | l, s :: t => okRow (l.take 15) s && okAll (l.drop 15) t

theorem okAll_at {l : List UInt8} {t : List (Int × Int × Int)} (h : okAll l t = true) (k : Nat) (hk : k < t.length) : okRow ((l.drop (k * 15)).take 15) t[k] = true := by
  induction t generalizing l k with
  | nil => simp at hk
  | cons s t ih =>
    simp only [okAll, Bool.and_eq_true] at h
    cases k with
    | zero => simpa using h.1
    | succ k =>
      have := ih h.2 k (by simpa using hk)
      rw [List.drop_drop] at this
      rw [show (k + 1) * 15 = 15 + k * 15 by omega]
      exact this

theorem cut4 (l : List UInt8) (k n : Nat) (hn : n < 3) : ((((l.drop (k * 15)).take 15).drop (n * 5)).take 4) = (l.drop (k * 15 + n * 5)).take 4 := by
  rw [List.drop_take, List.take_take, List.drop_drop, show min 4 (15 - n * 5) = 4 by omega]

/-- number n of a row of three -/
def nth (s : Int × Int × Int) (n : Nat) : Int := if n = 0 then s.1 else if n = 1 then s.2.1 else s.2.2

theorem okRow_parts {l : List UInt8} {k : Nat} {s : Int × Int × Int} (h : okRow ((l.drop (k * 15)).take 15) s = true) (n : Nat) (hn : n < 3) :
    numAt l k n = nth s n ∧ ((l.drop (k * 15 + n * 5)).take 4).all hexB = true := by
  simp only [okRow, Bool.and_eq_true, decide_eq_true_eq] at h
  obtain ⟨⟨⟨⟨⟨h1, h2⟩, h3⟩, h4⟩, h5⟩, h6⟩ := h
  have c0 := cut4 l k 0 (by omega)
  have c1 := cut4 l k 1 (by omega)
  have c2 := cut4 l k 2 (by omega)
  simp only [Nat.zero_mul, List.drop_zero, Nat.one_mul, Nat.add_zero] at c0 c1
  simp only [Nat.reduceMul] at c2
  rw [c0] at h1 h4
  rw [c1] at h2 h5
  rw [c2] at h3 h6
  unfold numAt nth
  match n, hn with
  | 0, _ => exact ⟨by simpa using h1, by simpa only [Nat.zero_mul, Nat.add_zero] using h4⟩
  | 1, _ => exact ⟨by simpa using h2, by simpa only [Nat.one_mul] using h5⟩
  | 2, _ => exact ⟨by simpa using h3, by simpa only [Nat.reduceMul] using h6⟩

/-- is a pair ahead of another? -/
def ltK (a b c d : Int) : Bool := decide (a < c) || (decide (a = c) && decide (b < d))

/-- what two pairs come to -/
def cmpK (a b c d : Int) : Int := if a < c then -1 else if c < a then 1 else if b < d then -1 else if d < b then 1 else 0
theorem cmp_lt (a b c d : Int) : decide (cmpK a b c d < 0) = ltK a b c d := by
  unfold cmpK ltK
  rw [Bool.eq_iff_iff]
  simp only [decide_eq_true_eq, Bool.or_eq_true, Bool.and_eq_true]
  split
  · omega
  · split
    · omega
    · split
      · omega
      · split <;> omega

/-- how many rows, from the first on, are ahead of a pair -/
def posJ : List (Int × Int × Int) → Int → Int → Nat
  | [], _, _ => 0
  | s :: t, a, b => if ltK s.1 s.2.1 a b = true then posJ t a b + 1 else 0

def upB : List (Int × Int × Int) → Bool
  | s :: u :: t => ltK s.1 s.2.1 u.1 u.2.1 && upB (u :: t)
  | _ => true

theorem lt_trans {a b c d e f : Int} (h1 : ltK a b c d = true) (h2 : ltK c d e f = true) : ltK a b e f = true := by
  unfold ltK at *
  simp only [decide_eq_true_eq, Bool.or_eq_true, Bool.and_eq_true] at *
  omega

theorem up_tail {s : Int × Int × Int} {l : List (Int × Int × Int)} (h : upB (s :: l) = true) : upB l = true := by
  cases l with
  | nil => rfl
  | cons b t => simp only [upB, Bool.and_eq_true] at h; exact h.2

theorem up_head {s : Int × Int × Int} {l : List (Int × Int × Int)} (h : upB (s :: l) = true) : ∀ x ∈ l, ltK s.1 s.2.1 x.1 x.2.1 = true := by
  induction l generalizing s with
  | nil => intro x hx; cases hx
  | cons b t ih =>
    intro x hx
    simp only [upB, Bool.and_eq_true] at h
    rcases List.mem_cons.1 hx with rfl | hx
    · exact h.1
    · exact lt_trans h.1 (ih h.2 x hx)

theorem up_pairs {l : List (Int × Int × Int)} (h : upB l = true) : l.Pairwise (fun s t => ltK s.1 s.2.1 t.1 t.2.1 = true) := by
  induction l with
  | nil => exact .nil
  | cons s t ih => exact .cons (up_head h) (ih (up_tail h))

theorem posJ_le (l : List (Int × Int × Int)) (a b : Int) : posJ l a b ≤ l.length := by
  induction l with
  | nil => exact Nat.le_refl _
  | cons s t ih => unfold posJ; split <;> simp <;> omega

theorem posJ_lt_iff {l : List (Int × Int × Int)} (hs : upB l = true) (a b : Int) (k : Nat) (hk : k < l.length) : ltK l[k].1 l[k].2.1 a b = true ↔ k < posJ l a b := by
  induction l generalizing k with
  | nil => simp at hk
  | cons s t ih =>
    unfold posJ
    cases k with
    | zero => simp only [List.getElem_cons_zero]; split <;> simp_all
    | succ k =>
      simp only [List.getElem_cons_succ]
      have hk' : k < t.length := by simpa using hk
      rw [ih (up_tail hs) k hk']
      split
      · omega
      · rename_i h
        have h1 := up_head hs t[k] (List.getElem_mem hk')
        have h3 := ih (up_tail hs) k hk'
        constructor
        · intro h4; exact absurd (lt_trans h1 (h3.2 h4)) h
        · intro h4; omega

theorem lookJ_yes {l : List (Int × Int × Int)} (hs : upB l = true) (a b : Int) (hp : posJ l a b < l.length) (h1 : l[posJ l a b].1 = a) (h2 : l[posJ l a b].2.1 = b) : lookJ l a b = some l[posJ l a b].2.2 := by
  refine lookJ_of_mem ((up_pairs hs).imp fun {s t} h e => ?_) ?_
  · unfold ltK at h
    simp only [decide_eq_true_eq, Bool.or_eq_true, Bool.and_eq_true] at h
    omega
  · have := List.getElem_mem hp
    obtain ⟨x, hx⟩ : ∃ x, l[posJ l a b] = x := ⟨_, rfl⟩
    rw [hx] at this h1 h2 ⊢
    obtain ⟨x1, x2, x3⟩ := x
    dsimp only at *
    subst h1 h2
    exact this

theorem lookJ_no {l : List (Int × Int × Int)} (hs : upB l = true) (a b : Int) (h : ∀ hp : posJ l a b < l.length, ¬ (l[posJ l a b].1 = a ∧ l[posJ l a b].2.1 = b)) : lookJ l a b = none := by
  refine lookJ_none fun s hsm e => ?_
  obtain ⟨k, hk, rfl⟩ := List.mem_iff_getElem.1 hsm
  have hn : ¬ k < posJ l a b := fun hlt => by
    have := (posJ_lt_iff hs a b k hk).2 hlt
    rw [e.1, e.2] at this
    unfold ltK at this
    simp only [decide_eq_true_eq, Bool.or_eq_true, Bool.and_eq_true] at this
    omega
  have hp : posJ l a b < l.length := by omega
  rcases Nat.eq_or_lt_of_le (Nat.le_of_not_lt hn) with h3 | h3
  · refine h hp ?_
    simp only [h3]
    exact e
  · have h4 := List.pairwise_iff_getElem.1 (up_pairs hs) _ _ hp hk h3
    rw [e.1, e.2] at h4
    have := (posJ_lt_iff hs a b _ hp).1 h4
    omega

theorem up : upB T = true := by decide +kernel
theorem rows : T.length = 307 := by decide +kernel
theorem rows_bd : ∀ s ∈ T, 0 < s.1 ∧ s.1 < 65536 ∧ 0 < s.2.1 ∧ s.2.1 < 65536 ∧ 0 < s.2.2 ∧ s.2.2 < 65536 := by decide +kernel

theorem join_small {a b x : Int} (h : joinI a b = some x) : 0 < x ∧ x < 65536 := by
  unfold joinI at h
  by_cases h1 : LV a b
  · rw [if_pos h1] at h
    unfold LV at h1
    have e : x = 0xAC00 + ((a - 0x1100) * 21 + (b - 0x1161)) * 28 := by simpa using h.symm
    omega
  rw [if_neg h1] at h
  by_cases h2 : LVT a b
  · rw [if_pos h2] at h
    unfold LVT at h2
    have e : x = a + b - 0x11A7 := by simpa using h.symm
    omega
  rw [if_neg h2] at h
  have := rows_bd _ (lookJ_mem h)
  dsimp only at this
  omega

/-- what Back goes over: the parts, put together one by one -/
def walkB (r : Int) : Int → List Int → Option (Int × Int)
  | _, [] => none
  | a, b :: t => match joinI a b with
    | none => none
    | some x => if x = r then some (a, b) else walkB r x t

theorem rows_walk : ∀ s ∈ T, walkB s.2.2 ((Dcp.fullI s.2.2).headD 0) (Dcp.fullI s.2.2).tail = some (s.1, s.2.1) := by decide +kernel

theorem walk_sound (r : Int) (l : List Int) (a : Int) {p : Int × Int} (h : walkB r a l = some p) : joinI p.1 p.2 = some r := by
  induction l generalizing a with
  | nil => cases h
  | cons b t ih =>
    unfold walkB at h
    split at h
    · cases h
    · rename_i x hx
      split at h
      · rename_i e
        subst e
        obtain rfl : p = (a, b) := by simpa using h.symm
        exact hx
      · exact ih _ h

theorem walk_back (r : Int) : walkB r ((Dcp.fullI r).headD 0) (Dcp.fullI r).tail = backI r := by
  by_cases hs : Syl r
  · have hs' := hs
    unfold Syl at hs'
    rw [Dcp.full_syl hs']
    unfold backI
    rw [if_pos hs]
    obtain ⟨s, hse⟩ : ∃ s, r - 44032 = s := ⟨_, rfl⟩
    have hs0 : 0 ≤ s ∧ s < 11172 := by omega
    have hr : r = 44032 + s := by omega
    rw [show r - 0xAC00 = s from hse]
    have hLV : joinI (4352 + s / 588) (4449 + s % 588 / 28) = some (44032 + s - s % 28) := by
      unfold joinI
      rw [if_pos (show LV _ _ by unfold LV; omega)]
      congr 1
      omega
    unfold Dcp.sylL sylB
    by_cases ht : s % 28 = 0
    · rw [if_pos ht, if_pos ht]
      simp only [List.headD_cons, List.tail_cons]
      unfold walkB
      rw [show (0x1100 : Int) = 4352 from rfl, show (0x1161 : Int) = 4449 from rfl, hLV]
      dsimp only
      rw [if_pos (by omega)]
    · rw [if_neg ht, if_neg ht]
      simp only [List.headD_cons, List.tail_cons]
      have hT : joinI (44032 + s - s % 28) (4519 + s % 28) = some (44032 + s) := by
        unfold joinI
        rw [if_neg (show ¬ LV _ _ by unfold LV; omega), if_pos (show LVT _ _ by unfold LVT; omega)]
        congr 1
        omega
      unfold walkB
      rw [show (0x1100 : Int) = 4352 from rfl, show (0x1161 : Int) = 4449 from rfl, hLV]
      dsimp only
      rw [if_neg (by omega)]
      unfold walkB
      rw [show (0x11A7 : Int) = 4519 from rfl, hT]
      dsimp only
      rw [if_pos (by omega)]
  · cases hb : backI r with
    | some p =>
      obtain ⟨a, b⟩ := p
      unfold backI at hb
      rw [if_neg hs] at hb
      exact rows_walk _ (lookB_mem hb)
    | none =>
      cases hw : walkB r ((Dcp.fullI r).headD 0) (Dcp.fullI r).tail with
      | none => rfl
      | some p =>
        have := (join_back (walk_sound r _ _ hw)).1
        rw [hb] at this
        cases this

end Go.Proofs.YtkhjkodeolaemaaDoor.Par
