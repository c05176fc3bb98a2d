/- Layer 7, plain mathematics: rows of blocks that are in order; a row in order is one alone; of a list's places in order the values are those that the document's order tells. -/
import Derived.Test.YtkhjkodeolaemaaDoorStM7
namespace Go.Proofs.YtkhjkodeolaemaaDoor.Stb
set_option linter.unusedSimpArgs false
set_option linter.unusedVariables false
open Go.Sort
open Prp (mrkB cccI)
open Can (stepR orderR orderI insR adjR sortedB)

/-- in order from a to b, and of what stood there -/
def Seg (d : Array El) (a b : Nat) : Prop := St d a b ∧ ∀ t, a ≤ t → t < b → a ≤ (d[t]!).2.2.2 ∧ (d[t]!).2.2.2 < b

theorem seg_none (d : Array El) (a : Nat) : Seg d a a := ⟨fun i j h1 h2 h3 => by omega, fun t h1 h2 => by omega⟩
theorem seg_other {d d' : Array El} {a b x y : Nat} (p : PermIn a b d d') (h : Seg d x y) (ho : y ≤ a ∨ b ≤ x) : Seg d' x y :=
  ⟨fun i j h1 h2 h3 => by rw [p.2.1 i (by omega), p.2.1 j (by omega)]; exact h.1 i j h1 h2 h3, fun t h1 h2 => by rw [p.2.1 t (by omega)]; exact h.2 t h1 h2⟩
theorem seg_put {d d' : Array El} {a b : Nat} (p : PermIn a b d d') (hb : b ≤ d.size) (hs : St d' a b) (hk : ∀ t, a ≤ t → t < b → a ≤ (d[t]!).2.2.2 ∧ (d[t]!).2.2.2 < b) : Seg d' a b :=
  ⟨hs, fun t h1 h2 => permIn_all d d' a b (fun e => a ≤ e.2.2.2 ∧ e.2.2.2 < b) hb p hk t h1 h2⟩
theorem seg_ah {d : Array El} {a m b : Nat} (h1 : Seg d a m) (h2 : Seg d m b) : Ah d a m b := fun i j x y z t => by
  have := (h1.2 i x y).2
  have := (h2.2 j z t).1
  omega
theorem seg_two {d d' : Array El} {a m b : Nat} (p : PermIn a b d d') (hb : b ≤ d.size) (hs : St d' a b) (h1 : Seg d a m) (h2 : Seg d m b) (ha : a ≤ m) (hm : m ≤ b) : Seg d' a b :=
  seg_put p hb hs fun t x y => by
    rcases Nat.lt_or_ge t m with h | h
    · have := h1.2 t x h; omega
    · have := h2.2 t h y; omega

/-- from a on, blocks of s -/
def Bl (s n : Nat) (d : Array El) (a : Nat) : Prop := ∀ j, Seg d (min (a + j * s) n) (min (a + (j + 1) * s) n)
/-- up to a, blocks of s -/
def Dn (s n : Nat) (d : Array El) (a : Nat) : Prop := ∃ p, a = p * s ∧ a ≤ n ∧ ∀ j, j < p → Seg d (j * s) ((j + 1) * s)

theorem dn_zero (s n : Nat) (d : Array El) : Dn s n d 0 := ⟨0, by simp, Nat.zero_le _, fun j h => by omega⟩
theorem dn_more {s n a : Nat} {d d' : Array El} (h : Dn s n d a) (hn : a + s ≤ n) (p : PermIn a (a + s) d d') (hs : Seg d' a (a + s)) : Dn s n d' (a + s) := by
  obtain ⟨q, rfl, h1, h2⟩ := h
  refine ⟨q + 1, by rw [Nat.add_mul, Nat.one_mul], hn, fun j hj => ?_⟩
  rcases Nat.lt_or_ge j q with hq | hq
  · refine seg_other p (h2 j hq) (Or.inl ?_)
    exact Nat.mul_le_mul_right s hq
  · obtain rfl : j = q := by omega
    rw [Nat.add_mul, Nat.one_mul]
    exact hs
theorem dn_end {s n a : Nat} {d d' : Array El} (h : Dn s n d a) (hn : n < a + s) (p : PermIn a n d d') (hs : Seg d' a n) : Bl s n d' 0 := by
  obtain ⟨q, rfl, h1, h2⟩ := h
  intro j
  rw [Nat.zero_add, Nat.zero_add]
  rcases Nat.lt_trichotomy j q with hq | hq | hq
  · have h3 : (j + 1) * s ≤ q * s := Nat.mul_le_mul_right s hq
    have h4 : j * s ≤ (j + 1) * s := Nat.mul_le_mul_right s (by omega)
    rw [Nat.min_eq_left (by omega), Nat.min_eq_left (by omega)]
    exact seg_other p (h2 j hq) (Or.inl h3)
  · subst hq
    have h3 : (j + 1) * s = j * s + s := by rw [Nat.add_mul, Nat.one_mul]
    rw [Nat.min_eq_left h1, Nat.min_eq_right (by omega)]
    exact hs
  · have h3 : (q + 1) * s ≤ j * s := Nat.mul_le_mul_right s hq
    have h4 : (q + 1) * s = q * s + s := by rw [Nat.add_mul, Nat.one_mul]
    have h5 : j * s ≤ (j + 1) * s := Nat.mul_le_mul_right s (by omega)
    rw [Nat.min_eq_right (by omega), Nat.min_eq_right (by omega)]
    exact seg_none _ _
theorem bl_first {s n a : Nat} {d : Array El} (h : Bl s n d a) (hn : a + s ≤ n) : Seg d a (a + s) := by
  have := h 0
  rwa [Nat.zero_mul, Nat.add_zero, Nat.zero_add, Nat.one_mul, Nat.min_eq_left (by omega), Nat.min_eq_left hn] at this
theorem bl_second {s n a : Nat} {d : Array El} (h : Bl s n d a) (hn : a + 2 * s ≤ n) : Seg d (a + s) (a + 2 * s) := by
  have := h 1
  rwa [Nat.one_mul, show 1 + 1 = 2 from rfl, Nat.min_eq_left (by omega), Nat.min_eq_left hn] at this
theorem bl_second_cut {s n a : Nat} {d : Array El} (h : Bl s n d a) (hn : a + s ≤ n) (hc : n ≤ a + 2 * s) : Seg d (a + s) n := by
  have := h 1
  rwa [Nat.one_mul, show 1 + 1 = 2 from rfl, Nat.min_eq_left hn, Nat.min_eq_right hc] at this
theorem bl_first_cut {s n a : Nat} {d : Array El} (h : Bl s n d a) (ha : a ≤ n) (hc : n ≤ a + s) : Seg d a n := by
  have := h 0
  rwa [Nat.zero_mul, Nat.add_zero, Nat.zero_add, Nat.one_mul, Nat.min_eq_left ha, Nat.min_eq_right hc] at this
theorem bl_more {s n a : Nat} {d d' : Array El} (h : Bl s n d a) (p : PermIn a (a + 2 * s) d d') (hn : a + 2 * s ≤ n) : Bl s n d' (a + 2 * s) := fun j => by
  have := h (j + 2)
  have e1 : (j + 2) * s = j * s + 2 * s := Nat.add_mul _ _ _
  have e2 : (j + 2 + 1) * s = (j + 1) * s + 2 * s := by rw [show j + 2 + 1 = (j + 1) + 2 by omega, Nat.add_mul]
  rw [e1, e2, show a + (j * s + 2 * s) = a + 2 * s + j * s by omega, show a + ((j + 1) * s + 2 * s) = a + 2 * s + (j + 1) * s by omega] at this
  exact seg_other p this (Or.inr (by omega))

/-- how many are no marks -/
def cnt : List El → Int
  | [] => 0
  | x :: t => (if x.2.2.1 = 0 then 1 else 0) + cnt t

theorem cnt_cons (x : El) (t : List El) : cnt (x :: t) = (if x.2.2.1 = 0 then 1 else 0) + cnt t := rfl

/-- the places of a list, the last one first -/
def stepE (R : List El) (r : Int) : List El := (r, cnt R + (if cccI r = 0 then 1 else 0), cccI r, R.length) :: R
def placesR (l : List Int) (R : List El) : List El := l.foldl stepE R
def placesI (l : List Int) : List El := (placesR l []).reverse

theorem placesR_snoc (l : List Int) (r : Int) (R : List El) : placesR (l ++ [r]) R = stepE (placesR l R) r := by simp [placesR, List.foldl_append]
theorem placesR_len (l : List Int) (R : List El) : (placesR l R).length = l.length + R.length := by
  induction l generalizing R with
  | nil => simp [placesR]
  | cons x t ih =>
    show (placesR t (stepE R x)).length = _
    rw [ih]
    simp [stepE]
    omega
theorem placesI_len (l : List Int) : (placesI l).length = l.length := by simp [placesI, placesR_len]

/-- rows are counted by what is no mark -/
def Gd : List El → Prop
  | [] => True
  | x :: R => x.2.1 = cnt (x :: R) ∧ Gd R
def Cl (x : El) : Prop := x.2.2.1 = cccI x.1

/-- the mark's place among places, the last one first -/
def insE (e : El) : List El → List El
  | [] => [e]
  | y :: t => if mrkB y.1 = true ∧ e.2.2.1 < y.2.2.1 then y :: insE e t else e :: y :: t
def sortE (R : List El) (e : El) : List El := if mrkB e.1 = true then insE e R else e :: R

theorem cnt_ins (e : El) (he : e.2.2.1 ≠ 0) : ∀ R : List El, cnt (insE e R) = cnt R
  | [] => by simp [insE, cnt, he]
  | y :: t => by
    unfold insE
    split
    · rw [cnt_cons, cnt_cons, cnt_ins e he t]
    · simp [cnt_cons, he]
theorem ins_perm (e : El) : ∀ R : List El, (insE e R).Perm (e :: R)
  | [] => .refl _
  | y :: t => by
    unfold insE
    split
    · exact ((ins_perm e t).cons y).trans (.swap e y t)
    · exact .refl _
theorem ins_map (e : El) (he : Cl e) : ∀ R : List El, (∀ x ∈ R, Cl x) → (insE e R).map (·.1) = insR e.1 (R.map (·.1))
  | [], _ => rfl
  | y :: t, h => by
    have hy : Cl y := h y (by simp)
    unfold Cl at he hy
    show _ = insR e.1 (y.1 :: t.map (·.1))
    unfold insE insR
    by_cases hc : mrkB y.1 = true ∧ e.2.2.1 < y.2.2.1
    · rw [if_pos hc]
      rw [he, hy] at hc
      simp [hc, ins_map e he t (fun x hx => h x (by simp [hx]))]
    · rw [if_neg hc]
      rw [he, hy] at hc
      by_cases hm : mrkB y.1 = true
      · have : ¬ cccI e.1 < cccI y.1 := fun hh => hc ⟨hm, hh⟩
        simp [hm, this]
      · simp [hm]

/-- all earlier, later places ahead of earlier ones -/
def Dsc (R : List El) : Prop := R.Pairwise (fun x y => SL y x)

theorem cnt_nonneg : ∀ R : List El, 0 ≤ cnt R
  | [] => Int.le_refl _
  | x :: t => by
    have := cnt_nonneg t
    rw [cnt_cons]
    split <;> omega
theorem gd_le : ∀ (R : List El), Gd R → ∀ z ∈ R, z.2.1 ≤ cnt R
  | [], _, z, hz => by cases hz
  | x :: t, h, z, hz => by
    rcases List.mem_cons.1 hz with rfl | hz
    · exact Int.le_of_eq h.1
    · have := gd_le t h.2 z hz
      have : cnt t ≤ cnt (x :: t) := by rw [cnt_cons]; split <;> omega
      omega

theorem ins_gd (e : El) (he : e.2.2.1 ≠ 0) : ∀ R : List El, Gd R → (∀ x ∈ R, Cl x) → e.2.1 = cnt R → Gd (insE e R)
  | [], _, _, h => ⟨by simp [cnt, he]; exact h, trivial⟩
  | y :: t, hg, hc, h => by
    have hy : Cl y := hc y (by simp)
    unfold insE
    by_cases hh : mrkB y.1 = true ∧ e.2.2.1 < y.2.2.1
    · rw [if_pos hh]
      have hy0 : y.2.2.1 ≠ 0 := by
        unfold Cl at hy
        have := (Can.mrk_iff y.1).1 hh.1
        omega
      refine ⟨?_, ins_gd e he t hg.2 (fun x hx => hc x (by simp [hx])) ?_⟩
      · show y.2.1 = (if y.2.2.1 = 0 then 1 else 0) + cnt (insE e t)
        rw [cnt_ins e he]
        exact hg.1
      · rw [h, cnt_cons, if_neg hy0, Int.zero_add]
    · rw [if_neg hh]
      exact ⟨by rw [h]; simp [cnt, he], hg⟩

theorem ins_dsc (e : El) (hce : Cl e) (he : mrkB e.1 = true) : ∀ R : List El, Gd R → (∀ x ∈ R, Cl x) → Dsc R → e.2.1 = cnt R → (∀ x ∈ R, x.2.2.2 < e.2.2.2) → Dsc (insE e R)
  | [], _, _, _, _, _ => List.pairwise_singleton _ _
  | y :: t, hg, hc, hd, h, hk => by
    have hy : Cl y := hc y (by simp)
    have he0 : 0 < e.2.2.1 := by unfold Cl at hce; rw [hce]; exact (Can.mrk_iff e.1).1 he
    have hd' := List.pairwise_cons.1 hd
    unfold insE
    by_cases hh : mrkB y.1 = true ∧ e.2.2.1 < y.2.2.1
    · rw [if_pos hh]
      have hyr : y.2.1 = cnt (y :: t) := hg.1
      have hrow : e.2.1 = cnt t := by
        rw [h, cnt_cons, if_neg (by omega), Int.zero_add]
      refine List.pairwise_cons.2 ⟨fun z hz => ?_, ins_dsc e hce he t hg.2 (fun x hx => hc x (by simp [hx])) hd'.2 hrow (fun x hx => hk x (by simp [hx]))⟩
      rcases List.mem_cons.1 ((ins_perm e t).mem_iff.1 hz) with rfl | hz
      · have := hh.2
        unfold SL
        omega
      · exact hd'.1 z hz
    · rw [if_neg hh]
      refine List.pairwise_cons.2 ⟨fun z hz => ?_, hd⟩
      have hzr := gd_le _ hg z hz
      have hzk := hk z hz
      have hyc : y.2.2.1 ≤ e.2.2.1 := by
        by_cases hm : mrkB y.1 = true
        · have : ¬ e.2.2.1 < y.2.2.1 := fun q => hh ⟨hm, q⟩
          omega
        · have h0 : cccI y.1 = 0 := (Can.mrk_no y.1).1 (by simpa using hm)
          unfold Cl at hy
          omega
      have hyr := gd_le _ hg y (by simp)
      rcases List.mem_cons.1 hz with rfl | hz
      · unfold SL; omega
      · have := hd'.1 z hz
        unfold SL at *
        omega

/-- the places put in order one by one, beside the places as they came -/
theorem sort_all : ∀ (n : Nat) (l : List Int), l.length = n → ∃ S : List El, S.map (·.1) = orderR l [] ∧ Dsc S ∧ S.Perm (placesR l []) ∧ Gd S ∧ (∀ x ∈ S, Cl x) ∧ cnt S = cnt (placesR l []) ∧ ∀ x ∈ S, x.2.2.2 < l.length := by
  intro n
  induction n with
  | zero =>
    intro l hl
    obtain rfl := List.eq_nil_of_length_eq_zero hl
    exact ⟨[], rfl, List.Pairwise.nil, .refl _, trivial, (fun x hx => by cases hx), rfl, (fun x hx => by cases hx)⟩
  | succ n ih =>
    intro l hl
    rcases List.eq_nil_or_concat l with rfl | ⟨t, r, rfl⟩
    · cases hl
    rw [List.concat_eq_append] at hl ⊢
    rw [List.length_append] at hl
    obtain ⟨S, h1, h2, h3, h4, h5, h6, h7⟩ := ih t (by simp at hl; omega)
    rw [placesR_snoc, Can.orderR_app, Can.orderR_one, ← h1]
    have hlen : (placesR t []).length = t.length := by simp [placesR_len]
    obtain ⟨e, he⟩ : ∃ e, e = ((r, cnt (placesR t []) + (if cccI r = 0 then 1 else 0), cccI r, (placesR t []).length) : El) := ⟨_, rfl⟩
    have hce : Cl e := by rw [he]; rfl
    have e1 : e.1 = r := by rw [he]
    have ek : e.2.2.2 = t.length := by rw [he]; exact hlen
    have hkS : ∀ x ∈ S, x.2.2.2 < e.2.2.2 := fun x hx => by rw [ek]; exact h7 x hx
    by_cases hm : mrkB r = true
    · have hc0 : cccI r ≠ 0 := by have := (Can.mrk_iff r).1 hm; omega
      have hc0' : e.2.2.1 ≠ 0 := by rw [he]; exact hc0
      have er : e.2.1 = cnt S := by rw [he, h6]; show _ + (if cccI r = 0 then 1 else 0) = _; rw [if_neg hc0]; omega
      refine ⟨insE e S, ?_, ins_dsc e hce (by rw [e1]; exact hm) S h4 h5 h2 er hkS, ?_, ins_gd e hc0' S h4 h5 er, ?_, ?_, ?_⟩
      · rw [ins_map e hce S h5, e1]; unfold stepR; rw [if_pos hm]
      · unfold stepE; rw [← he]; exact (ins_perm e S).trans (h3.cons e)
      · intro x hx
        rcases List.mem_cons.1 ((ins_perm e S).mem_iff.1 hx) with rfl | hx
        · exact hce
        · exact h5 x hx
      · rw [cnt_ins e hc0', h6]; unfold stepE; rw [← he, cnt_cons, if_neg hc0', Int.zero_add]
      · intro x hx
        rw [List.length_append]
        rcases List.mem_cons.1 ((ins_perm e S).mem_iff.1 hx) with rfl | hx
        · rw [ek]; simp
        · have := h7 x hx; simp; omega
    · have hc0 : cccI r = 0 := (Can.mrk_no r).1 (by simpa using hm)
      have hc0' : e.2.2.1 = 0 := by rw [he]; exact hc0
      have er : e.2.1 = cnt S + 1 := by rw [he, h6]; show _ + (if cccI r = 0 then 1 else 0) = _; rw [if_pos hc0]
      refine ⟨e :: S, ?_, List.pairwise_cons.2 ⟨fun z hz => ?_, h2⟩, ?_, ⟨?_, h4⟩, ?_, ?_, ?_⟩
      · simp [stepR, hm, e1]
      · have := gd_le S h4 z hz
        unfold SL
        omega
      · unfold stepE; rw [← he]; exact h3.cons e
      · show e.2.1 = (if e.2.2.1 = 0 then 1 else 0) + cnt S
        rw [if_pos hc0', er]; omega
      · intro x hx
        rcases List.mem_cons.1 hx with rfl | hx
        · exact hce
        · exact h5 x hx
      · unfold stepE; rw [← he]; show (if e.2.2.1 = 0 then 1 else 0) + cnt S = (if e.2.2.1 = 0 then 1 else 0) + cnt (placesR t []); rw [h6]
      · intro x hx
        rw [List.length_append]
        rcases List.mem_cons.1 hx with rfl | hx
        · rw [ek]; simp
        · have := h7 x hx; simp; omega

/-- what is in order, and of the list's places, has the document's order -/
theorem order_of_st {l : List Int} {d' : Array El} (p : PermIn 0 l.length (placesI l).toArray d') (s : St d' 0 l.length) : d'.toList.map (·.1) = orderI l := by
  obtain ⟨S, h1, h2, h3, _⟩ := sort_all _ l rfl
  have hz : d'.size = l.length := by rw [p.1]; simp [placesI_len]
  have hp : d'.toList.Perm (placesI l) := by
    have := p.2.2
    rw [← hz] at this
    have e1 : d'.extract 0 d'.size = d' := Array.extract_size
    have e2 : (placesI l).toArray.extract 0 d'.size = (placesI l).toArray := by
      have : d'.size = (placesI l).toArray.size := by simp [placesI_len, hz]
      rw [this]; exact Array.extract_size
    rwa [e1, e2] at this
  have hS : S.reverse.Perm d'.toList := ((List.reverse_perm S).trans (h3.trans (List.reverse_perm _).symm)).trans hp.symm
  have pS : S.reverse.Pairwise SL := List.pairwise_reverse.2 h2
  have pD : d'.toList.Pairwise SL := by
    rw [List.pairwise_iff_getElem]
    intro i j hi hj hij
    have := s i j (Nat.zero_le _) hij (by rw [← hz]; simpa using hj)
    rw [Array.length_toList] at hi hj
    rw [getElem!_pos d' i hi, getElem!_pos d' j hj] at this
    simpa using this
  have := List.Perm.eq_of_pairwise (le := SL) (fun a b _ _ x y => absurd y (sl_not x)) pS pD hS
  rw [← this, List.map_reverse, h1]
  rfl

end Go.Proofs.YtkhjkodeolaemaaDoor.Stb
