/- Layer 3, plain mathematics: tables of rows, what stands in them, and where a search by halves comes out. -/
import Derived.Test.YtkhjkodeolaemaaDoorRows
namespace Go.Proofs.YtkhjkodeolaemaaDoor.Prp
set_option linter.unusedSimpArgs false
set_option linter.unusedVariables false

abbrev Row := Int × Int × Int

/-- what a value is by a table: the first row around it -/
def look : List Row → Int → Option Int
  | [], _ => none
  | s :: t, r => if s.1 ≤ r ∧ r ≤ s.2.1 then some s.2.2 else look t r

/-- how many rows, from the first on, end ahead of a value -/
def pos : List Row → Int → Nat
  | [], _ => 0
  | s :: t, r => if s.2.1 < r then pos t r + 1 else 0

def Sorted (l : List Row) : Prop := (∀ s ∈ l, s.1 ≤ s.2.1) ∧ l.Pairwise (fun s t => s.2.1 < t.1)
instance (l : List Row) : Decidable (Sorted l) := inferInstanceAs (Decidable (_ ∧ _))

theorem sorted_tail {s : Row} {l : List Row} (h : Sorted (s :: l)) : Sorted l :=
  ⟨fun x hx => h.1 x (List.mem_cons_of_mem _ hx), (List.pairwise_cons.1 h.2).2⟩

theorem pos_le (l : List Row) (r : Int) : pos l r ≤ l.length := by
  induction l with
  | nil => exact Nat.le_refl _
  | cons s t ih => unfold pos; split <;> simp <;> omega

theorem pos_lt_iff {l : List Row} (hs : Sorted l) (r : Int) (k : Nat) (hk : k < l.length) : l[k].2.1 < r ↔ k < pos l r := by
  induction l generalizing k with
  | nil => simp at hk
  | cons s t ih =>
    unfold pos
    cases k with
    | zero => simp only [List.getElem_cons_zero]; split <;> simp_all
    | succ k =>
      simp only [List.getElem_cons_succ]
      have hk' : k < t.length := by simpa using hk
      rw [ih (sorted_tail hs) k hk']
      split
      · omega
      · rename_i h
        have h1 := (List.pairwise_cons.1 hs.2).1 t[k] (List.getElem_mem hk')
        have h2 := hs.1 t[k] (List.mem_cons_of_mem _ (List.getElem_mem hk'))
        have h3 := ih (sorted_tail hs) k hk'
        constructor
        · intro h4; have := h3.2 h4; omega
        · intro h4; omega

theorem look_none {l : List Row} {r : Int} (h : ∀ s ∈ l, r < s.1 ∨ s.2.1 < r) : look l r = none := by
  induction l with
  | nil => rfl
  | cons s t ih =>
    unfold look
    have := h s (List.mem_cons_self ..)
    rw [if_neg (by omega)]
    exact ih fun x hx => h x (List.mem_cons_of_mem _ hx)

theorem look_mem {l : List Row} {r v : Int} (h : look l r = some v) : ∃ s ∈ l, s.1 ≤ r ∧ r ≤ s.2.1 ∧ s.2.2 = v := by
  induction l with
  | nil => cases h
  | cons s t ih =>
    unfold look at h
    split at h
    · rename_i hh
      exact ⟨s, List.mem_cons_self .., hh.1, hh.2, by simpa using h⟩
    · obtain ⟨x, hx, h⟩ := ih h
      exact ⟨x, List.mem_cons_of_mem _ hx, h⟩

/-- what a search by halves finds -/
theorem look_yes {l : List Row} (hs : Sorted l) (r : Int) (hp : pos l r < l.length) (h : l[pos l r].1 ≤ r) : look l r = some l[pos l r].2.2 := by
  induction l with
  | nil => simp at hp
  | cons s t ih =>
    unfold look
    by_cases h1 : s.2.1 < r
    · have e : pos (s :: t) r = pos t r + 1 := by rw [pos, if_pos h1]
      rw [if_neg (by omega)]
      have hp' : pos t r < t.length := by rw [e] at hp; simpa using hp
      have e2 : (s :: t)[pos (s :: t) r]'hp = t[pos t r]'hp' := by simp only [e, List.getElem_cons_succ]
      rw [e2] at h ⊢
      exact ih (sorted_tail hs) hp' h
    · have e : pos (s :: t) r = 0 := by rw [pos, if_neg h1]
      have e2 : (s :: t)[pos (s :: t) r]'hp = s := by simp only [e, List.getElem_cons_zero]
      rw [e2] at h ⊢
      rw [if_pos ⟨h, by omega⟩]

theorem look_no {l : List Row} (hs : Sorted l) (r : Int) (h : ∀ hp : pos l r < l.length, r < l[pos l r].1) : look l r = none := by
  refine look_none fun s hsm => ?_
  obtain ⟨k, hk, rfl⟩ := List.mem_iff_getElem.1 hsm
  by_cases h1 : k < pos l r
  · exact .inr ((pos_lt_iff hs r k hk).2 h1)
  · have hp : pos l r < l.length := by omega
    have h2 := h hp
    rcases Nat.eq_or_lt_of_le (Nat.le_of_not_lt h1) with h3 | h3
    · left; simp only [h3] at h2; exact h2
    · left
      have h4 := List.pairwise_iff_getElem.1 hs.2 _ _ hp hk h3
      have h5 := hs.1 _ (List.getElem_mem hp)
      omega

theorem look_some {l : List Row} (hs : Sorted l) {r v : Int} (h : look l r = some v) : ∃ hp : pos l r < l.length, l[pos l r].2.2 = v := by
  by_cases hp : pos l r < l.length
  · by_cases h1 : l[pos l r].1 ≤ r
    · rw [look_yes hs r hp h1] at h
      exact ⟨hp, by simpa using h⟩
    · rw [look_no hs r (fun _ => by omega)] at h
      cases h
  · rw [look_no hs r (fun h => absurd h hp)] at h
    cases h

def classes : List Row := [
  (0x0300, 0x0314, 230), (0x0315, 0x0315, 232), (0x0316, 0x0319, 220), (0x031A, 0x031A, 232),
  (0x031B, 0x031B, 216), (0x031C, 0x0320, 220), (0x0321, 0x0322, 202), (0x0323, 0x0326, 220),
  (0x0327, 0x0328, 202), (0x0329, 0x0333, 220), (0x0334, 0x0338, 1), (0x0339, 0x033C, 220),
  (0x033D, 0x0344, 230), (0x0345, 0x0345, 240), (0x0346, 0x0346, 230), (0x0347, 0x0349, 220),
  (0x034A, 0x034C, 230), (0x034D, 0x034E, 220), (0x0350, 0x0352, 230), (0x0353, 0x0356, 220),
  (0x0357, 0x0357, 230), (0x0358, 0x0358, 232), (0x0359, 0x035A, 220), (0x035B, 0x035B, 230),
  (0x035C, 0x035C, 233), (0x035D, 0x035E, 234), (0x035F, 0x035F, 233), (0x0360, 0x0361, 234),
  (0x0362, 0x0362, 233), (0x0363, 0x036F, 230), (0x064B, 0x064B, 27), (0x064C, 0x064C, 28),
  (0x064D, 0x064D, 29), (0x064E, 0x064E, 30), (0x064F, 0x064F, 31), (0x0650, 0x0650, 32),
  (0x0651, 0x0651, 33), (0x0652, 0x0652, 34), (0x093C, 0x093C, 7), (0x094D, 0x094D, 9),
  (0x20D0, 0x20D1, 230), (0x3099, 0x309A, 8)]

def kinds : List Row := [
  (0x0000, 0x0009, 3), (0x000A, 0x000A, 2), (0x000B, 0x000C, 3), (0x000D, 0x000D, 1),
  (0x000E, 0x001F, 3), (0x007F, 0x009F, 3), (0x00A9, 0x00A9, 14), (0x00AD, 0x00AD, 3),
  (0x00AE, 0x00AE, 14), (0x0300, 0x036F, 4), (0x0600, 0x0605, 7), (0x061C, 0x061C, 3),
  (0x064B, 0x065F, 4), (0x06DD, 0x06DD, 7), (0x0903, 0x0903, 8), (0x093B, 0x093B, 8),
  (0x093C, 0x093C, 4), (0x093E, 0x0940, 8), (0x0949, 0x094C, 8), (0x094D, 0x094D, 4),
  (0x1100, 0x115F, 9), (0x1160, 0x11A7, 10), (0x11A8, 0x11FF, 11), (0x200B, 0x200B, 3),
  (0x200C, 0x200C, 4), (0x200D, 0x200D, 5), (0x200E, 0x200F, 3), (0x2028, 0x202E, 3),
  (0x203C, 0x203C, 14), (0x2049, 0x2049, 14), (0x2060, 0x206F, 3), (0x20D0, 0x20F0, 4),
  (0x2122, 0x2122, 14), (0x2139, 0x2139, 14), (0x2194, 0x2199, 14), (0x231A, 0x231B, 14),
  (0x2600, 0x2604, 14), (0x2611, 0x2611, 14), (0x2614, 0x2615, 14), (0x263A, 0x263A, 14),
  (0x2665, 0x2665, 14), (0x26A1, 0x26A1, 14), (0x2705, 0x2705, 14), (0x2764, 0x2764, 14),
  (0x3099, 0x309A, 4), (0xFE00, 0xFE0F, 4), (0xFEFF, 0xFEFF, 3), (0x1F1E6, 0x1F1FF, 6),
  (0x1F300, 0x1F3FA, 14), (0x1F3FB, 0x1F3FF, 4), (0x1F400, 0x1F64F, 14), (0x1F680, 0x1F6FF, 14),
  (0x1F900, 0x1F9FF, 14)]

def dropped : List Row := [
  (0x00AD, 0x00AD, 0), (0x034F, 0x034F, 0), (0x061C, 0x061C, 0), (0x115F, 0x1160, 0),
  (0x17B4, 0x17B5, 0), (0x180B, 0x180F, 0), (0x200B, 0x200F, 0), (0x202A, 0x202E, 0),
  (0x2060, 0x206F, 0), (0x3164, 0x3164, 0), (0xFE00, 0xFE0F, 0), (0xFEFF, 0xFEFF, 0),
  (0xFFA0, 0xFFA0, 0), (0xFFF0, 0xFFF8, 0), (0xE0000, 0xE0FFF, 0)]

theorem sorted_classes : Sorted classes := by decide +kernel
theorem sorted_kinds : Sorted kinds := by decide +kernel
theorem sorted_dropped : Sorted dropped := by decide +kernel

def cccI (r : Int) : Int := (look classes r).getD 0
def kndI (r : Int) : Int := (look kinds r).getD 0
def gcbI (r : Int) : Int := if 0xAC00 ≤ r ∧ r ≤ 0xD7A3 then (if (r - 0xAC00) % 28 = 0 then 12 else 13) else kndI r
def drpB (r : Int) : Bool := (look dropped r).isSome
def mrkB (r : Int) : Bool := decide (0 < cccI r)

theorem getD_prop {l : List Row} (P : Int → Prop) (h0 : P 0) (h : ∀ s ∈ l, P s.2.2) (r : Int) : P ((look l r).getD 0) := by
  cases e : look l r with
  | none => exact h0
  | some v =>
    obtain ⟨s, hs, _, _, rfl⟩ := look_mem e
    exact h s hs

theorem ccc_bounds (r : Int) : 0 ≤ cccI r ∧ cccI r ≤ 240 := getD_prop (fun v => 0 ≤ v ∧ v ≤ 240) (by decide) (by decide +kernel) r
theorem knd_bounds (r : Int) : 0 ≤ kndI r ∧ kndI r ≤ 14 := getD_prop (fun v => 0 ≤ v ∧ v ≤ 14) (by decide) (by decide +kernel) r
theorem gcb_bounds (r : Int) : 0 ≤ gcbI r ∧ gcbI r ≤ 14 := by
  unfold gcbI
  have := knd_bounds r
  split
  · split <;> decide
  · exact this

/-- the table's value of a number of a row -/
theorem look_of_mem {l : List Row} (hs : Sorted l) {s : Row} (hm : s ∈ l) {r : Int} (h1 : s.1 ≤ r) (h2 : r ≤ s.2.1) : look l r = some s.2.2 := by
  induction l with
  | nil => cases hm
  | cons x t ih =>
    unfold look
    rcases List.mem_cons.1 hm with rfl | hm
    · rw [if_pos ⟨h1, h2⟩]
    · have h3 := (List.pairwise_cons.1 hs.2).1 s hm
      rw [if_neg (by omega)]
      exact ih (sorted_tail hs) hm

theorem ccc_pos {r : Int} (h : cccI r ≠ 0) : ∃ s ∈ classes, s.1 ≤ r ∧ r ≤ s.2.1 := by
  cases e : look classes r with
  | none => exact absurd (by unfold cccI; rw [e]; rfl) h
  | some v =>
    obtain ⟨s, hs, h1, h2, _⟩ := look_mem e
    exact ⟨s, hs, h1, h2⟩

theorem drp_row {r : Int} (h : drpB r = true) : ∃ s ∈ dropped, s.1 ≤ r ∧ r ≤ s.2.1 := by
  cases e : look dropped r with
  | none => unfold drpB at h; rw [e] at h; cases h
  | some v =>
    obtain ⟨s, hs, h1, h2, _⟩ := look_mem e
    exact ⟨s, hs, h1, h2⟩

theorem ccc_zero_of {r : Int} (h : ∀ s ∈ classes, r < s.1 ∨ s.2.1 < r) : cccI r = 0 := by unfold cccI; rw [look_none h]; rfl
theorem knd_zero_of {r : Int} (h : ∀ s ∈ kinds, r < s.1 ∨ s.2.1 < r) : kndI r = 0 := by unfold kndI; rw [look_none h]; rfl
theorem drp_no_of {r : Int} (h : ∀ s ∈ dropped, r < s.1 ∨ s.2.1 < r) : drpB r = false := by unfold drpB; rw [look_none h]; rfl

/-- marks extend -/
theorem ccc_gcb {r : Int} (h : cccI r ≠ 0) : gcbI r = 4 := by
  obtain ⟨s, hs, h1, h2⟩ := ccc_pos h
  have hin : ∀ s ∈ classes, (s.2.1 < 0xAC00 ∨ 0xD7A3 < s.1) ∧ ∃ t ∈ kinds, t.1 ≤ s.1 ∧ s.2.1 ≤ t.2.1 ∧ t.2.2 = 4 := by decide +kernel
  obtain ⟨h3, t, ht, h4, h5, h6⟩ := hin s hs
  unfold gcbI
  rw [if_neg (by omega)]
  unfold kndI
  rw [look_of_mem sorted_kinds ht (by omega) (by omega), h6]
  rfl

/-- what is no scalar value has no property -/
theorem bad_none {r : Int} (h : r < 0 ∨ (0xD800 ≤ r ∧ r ≤ 0xDFFF) ∨ 0x10FFFF < r) : cccI r = 0 ∧ gcbI r = 0 ∧ drpB r = false := by
  have c1 : ∀ s ∈ classes, 0 ≤ s.1 ∧ s.2.1 ≤ 0x10FFFF ∧ (s.2.1 < 0xD800 ∨ 0xDFFF < s.1) := by decide +kernel
  have c2 : ∀ s ∈ kinds, 0 ≤ s.1 ∧ s.2.1 ≤ 0x10FFFF ∧ (s.2.1 < 0xD800 ∨ 0xDFFF < s.1) := by decide +kernel
  have c3 : ∀ s ∈ dropped, 0 ≤ s.1 ∧ s.2.1 ≤ 0x10FFFF ∧ (s.2.1 < 0xD800 ∨ 0xDFFF < s.1) := by decide +kernel
  refine ⟨ccc_zero_of fun s hs => by have := c1 s hs; omega, ?_, drp_no_of fun s hs => by have := c3 s hs; omega⟩
  unfold gcbI
  rw [if_neg (by omega)]
  exact knd_zero_of fun s hs => by have := c2 s hs; omega

/-- no mark is dropped -/
theorem mark_drop (r : Int) : ¬ (mrkB r = true ∧ drpB r = true) := by
  rintro ⟨h1, h2⟩
  have h3 : cccI r ≠ 0 := by unfold mrkB at h1; have := of_decide_eq_true h1; omega
  obtain ⟨s, hs, a1, a2⟩ := ccc_pos h3
  obtain ⟨t, ht, b1, b2⟩ := drp_row h2
  have hd : ∀ s ∈ classes, ∀ t ∈ dropped, s.2.1 < t.1 ∨ t.2.1 < s.1 := by decide +kernel
  have := hd s hs t ht
  omega

/-- syllables -/
theorem syl {r : Int} (h1 : 0xAC00 ≤ r) (h2 : r ≤ 0xD7A3) : cccI r = 0 ∧ drpB r = false ∧ gcbI r = if (r - 0xAC00) % 28 = 0 then 12 else 13 := by
  have c1 : ∀ s ∈ classes, s.2.1 < 0xAC00 ∨ 0xD7A3 < s.1 := by decide +kernel
  have c3 : ∀ s ∈ dropped, s.2.1 < 0xAC00 ∨ 0xD7A3 < s.1 := by decide +kernel
  refine ⟨ccc_zero_of fun s hs => by have := c1 s hs; omega, drp_no_of fun s hs => by have := c3 s hs; omega, ?_⟩
  unfold gcbI
  rw [if_pos ⟨h1, h2⟩]

def asciiKind (k : Int) : Int := if k = 10 then 2 else if k = 13 then 1 else if k < 32 ∨ k = 127 then 3 else 0

theorem ascii_all : ∀ k : Fin 128, cccI (k.1 : Int) = 0 ∧ drpB (k.1 : Int) = false ∧ gcbI (k.1 : Int) = asciiKind (k.1 : Int) := by decide +kernel

theorem ascii (k : Int) (h0 : 0 ≤ k) (h1 : k < 128) : cccI k = 0 ∧ drpB k = false ∧ gcbI k = asciiKind k := by
  have h := ascii_all ⟨k.toNat, by omega⟩
  rw [show ((k.toNat : Nat) : Int) = k by omega] at h
  exact h

end Go.Proofs.YtkhjkodeolaemaaDoor.Prp
