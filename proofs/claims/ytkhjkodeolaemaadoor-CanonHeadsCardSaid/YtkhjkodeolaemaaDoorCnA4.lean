/- Layer 7: the code's Order and Sorted. -/
import Derived.Test.YtkhjkodeolaemaaDoorCnA3
import Derived.Test.YtkhjkodeolaemaaDoorCnS
namespace Go.Proofs.YtkhjkodeolaemaaDoor
set_option linter.unusedSimpArgs false
set_option linter.unusedVariables false
open Go.Shelf Go.RowKit Go.Lib Go.Sort
open Stb

theorem make_nums (n : Nat) (hn : n ≤ 1000000) : ∃ X : Array Value, X.size = n ∧ ∀ W : World, (Instr.makeSlice 22 (.int .i64 (n : Int)) (.int .i64 (n : Int))).run Tryd.prog W = .ok (.slice (some ⟨W.heap.size, 0, none⟩) n n) (W.alloc (.cells X 3)) := by
  obtain ⟨i0, hi, h⟩ := Option.map_eq_some_iff.1 info_i
  simp only [Prod.mk.injEq] at h
  refine ⟨madeCells (Value.int .i64 0).cells (n * i0.size), by rw [size_madeCells, h.2.1]; omega, fun W => ?_⟩
  have hr := run_make (P := Tryd.prog) W 22 3 i0 (.int .i64 0) Tryd.underlying22 hi h.1 .i64 .i64 (n : Int) (n : Int) (by omega) (Int.le_refl _) (by rw [h.2.2]; omega) (by omega)
  rw [Int.toNat_natCast] at hr
  exact hr

theorem blk_otherAt7 {w : World} {k j : Nat} {cs : Array Value} {T : TypeId} (h : Blk w k cs T) (i : Nat) (u : Value) (hne : j ≠ k) : Blk (w.setCell ⟨j, i, none⟩ u) k cs T := by
  unfold Blk at *
  rw [heap_setCell_other w ⟨j, i, none⟩ k u (fun e => hne e.symm)]
  exact h

/-- the numbers of a block that is being filled -/
def Fill (w : World) (b : Nat) (n k : Nat) (l : List Int) : Prop := ∃ cs : Array Value, Blk w b cs 3 ∧ cs.size = n ∧ ∀ j (h : j < l.length), j < k → cs[j]? = some (.int .i64 l[j])

theorem fill_below {w w' : World} {b n k : Nat} {l : List Int} (h : Fill w b n k l) (hb : Below w.heap.size w w') : Fill w' b n k l := by
  obtain ⟨cs, h1, h2, h3⟩ := h
  exact ⟨cs, blk_below h1 hb, h2, h3⟩
theorem fill_lt {w : World} {b n k : Nat} {l : List Int} (h : Fill w b n k l) : b < w.heap.size := by
  obtain ⟨cs, h1, _⟩ := h
  exact blk_lt h1
theorem fill_at {w : World} {b n k : Nat} {l : List Int} (h : Fill w b n k l) (hk : k < n) : (∃ u, w.cell? ⟨b, k, none⟩ = some u) ∧ w.frozen? ⟨b, k, none⟩ = false := by
  obtain ⟨cs, h1, h2, _⟩ := h
  exact ⟨⟨cs[k]'(by omega), blk_cell h1 k _ (Array.getElem?_eq_getElem (by omega))⟩, blk_thaw h1 k⟩
theorem fill_more {w : World} {b n k : Nat} {l : List Int} (h : Fill w b n k l) (hn : n = l.length) (hk : k < l.length) : Fill (w.setCell ⟨b, k, none⟩ (.int .i64 l[k])) b n (k + 1) l := by
  obtain ⟨cs, h1, h2, h3⟩ := h
  refine ⟨_, blk_setAt7 h1 k _, by simpa using h2, fun j hj hjk => ?_⟩
  rw [Array.getElem?_setIfInBounds]
  by_cases e : k = j
  · subst e
    rw [if_pos rfl, if_pos (by omega)]
  · rw [if_neg e]
    exact h3 j hj (by omega)
theorem fill_ri {w : World} {b n : Nat} {l : List Int} (h : Fill w b n n l) (hn : n = l.length) : RI w (.slice (some ⟨b, 0, none⟩) n n) l := by
  subst hn
  have hb := fill_lt h
  obtain ⟨cs, h1, h2, h3⟩ := h
  refine .inr ⟨_, _, rfl, Nat.le_refl _, fun _ => ⟨b, 0, rfl, hb, fun i hi => ?_⟩⟩
  rw [Nat.zero_add]
  exact blk_cell h1 i _ (h3 i hi hi)

set_option maxHeartbeats 3200000 in
set_option maxRecDepth 100000 in
theorem orderC : OrderC := by
  intro v l w hl hv _
  obtain ⟨p, cap, rfl⟩ := ri_form hv
  have hpl := places_any _ l w (by omega) hv
  obtain ⟨X, hX, hmk⟩ := make_nums l.length (by omega)
  obtain ⟨N, hN⟩ : ∃ N, l.length = N := ⟨_, rfl⟩
  have hord : ∀ d' : Array El, PermIn 0 N (placesI l).toArray d' → St d' 0 N → d'.size = N ∧ d'.toList.map (·.1) = Can.orderI l := fun d' p s => by
    subst hN
    exact ⟨by rw [p.1]; simp [placesI_len], order_of_st p s⟩
  have hE : (placesI l).toArray.size = N := by rw [← hN]; simp [placesI_len]
  have hids : ∀ t, t < N → (((placesI l).toArray)[t]!).2.2.2 = t := fun t ht => by rw [← partP_last]; exact partP_id l l.length (Nat.le_refl _) t (by omega)
  have holen := Can.orderI_len l
  unfold Placed at hpl
  rw [hN] at hmk hX hpl holen ⊢
  obtain ⟨m, hm⟩ : ∃ m, Can.orderI l = m := ⟨_, rfl⟩
  obtain ⟨E, hEe⟩ : ∃ E, (placesI l).toArray = E := ⟨_, rfl⟩
  rw [hm] at hord holen ⊢
  rw [hEe] at hord hE hids hpl
  have hsr := fun (b : Nat) (W : World) (h : HoldsK encP 3 W b 0 E) (hb : b < W.heap.size) => sortStable_any b N E W h hb (by omega) (by rw [hE]; exact hids)
  rw [hE] at hsr
  replace hsr := Lib.hid hsr
  replace hpl := Lib.hid hpl
  replace hord := Lib.hid hord
  replace hX := Lib.hid hX
  have hN6 : N ≤ 10000 := by omega
  replace holen := Lib.hid holen
  clear hv hm hEe hE hids hN hl
  go_enter Tryd.func10, Tryd.ntmps10
  go_wp2_with fail
  refine hpl.out.mono ?_
  rintro e w1 ⟨b, rfl, hwb, hb, hH, hb1⟩
  replace hH := Lib.hid hH
  replace hb1 := Lib.hid hb1
  go_wp2_with fail
  refine (hsr.out b w1 hH.out hb).mono ?_
  rintro e w2 ⟨rfl, d', hH2, hb2, hbel2, hst, hperm⟩
  obtain ⟨hdz, hdm⟩ := hord.out d' hperm hst
  have HB2 := Lib.hid (hb1.out.trans (hbel2.mono hwb))
  replace hH2 := Lib.hid hH2
  clear hH hb1 hbel2 hst hperm hpl hsr
  have hdm' : ∀ j (h : j < m.length), m[j] = (d'[j]!).1 := fun j h => by
    have : j < d'.size := by rw [hdz, ← holen.out]; exact h
    rw [getElem!_pos d' j this]
    have h2 := List.getElem_of_eq hdm.symm h
    simpa using h2
  replace hdm' := Lib.hid hdm'
  replace hdz := Lib.hid hdz
  replace hdm := Lib.hid hdm
  go_wp2_with fail
  go_loopg [5, 6, 16] N (fun g v5 v6 v16 wr => ∃ k : Nat, k ≤ N ∧ v16 = .int .i64 k ∧ g = N - k ∧ Fill wr w2.heap.size N k m ∧ Below w2.heap.size w2 wr)
  case atStart => exact ⟨0, Nat.zero_le _, rfl, rfl, ⟨X, blk_new w2 _ _, hX.out, fun j h1 h2 => by omega⟩, below_new w2 _⟩
  case round =>
    obtain ⟨k, hk, rfl, rfl, hfill, hbel⟩ := hrel
    by_cases hlt : k < N
    · have hlt' : (k : Int) < (N : Int) := by omega
      have hkd : k < d'.size := by rw [hdz.out]; exact hlt
      have hkm : k < m.length := by rw [holen.out]; exact hlt
      have hc0 : wr.cell? ⟨b, k * 3, none⟩ = some (.int .i64 (d'[k]!).1) := by rw [hbel.cell (show b < w2.heap.size from hb2)]; have := (HoldsK.cell hH2.out hkd (show 0 < 3 by omega)).1; simpa [encP] using this
      have hc1 : wr.cell? ⟨b, k * 3 + 1, none⟩ = some (.int .i64 (d'[k]!).2.1) := by rw [hbel.cell (show b < w2.heap.size from hb2)]; have := (HoldsK.cell hH2.out hkd (show 1 < 3 by omega)).1; simpa [encP] using this
      have hc2 : wr.cell? ⟨b, k * 3 + 2, none⟩ = some (.int .i64 (d'[k]!).2.2.1) := by rw [hbel.cell (show b < w2.heap.size from hb2)]; have := (HoldsK.cell hH2.out hkd (show 2 < 3 by omega)).1; simpa [encP] using this
      have hmk' := hdm'.out k hkm
      obtain ⟨x0, hx0⟩ : ∃ x, (d'[k]!).1 = x := ⟨_, rfl⟩
      obtain ⟨x1, hx1⟩ : ∃ x, (d'[k]!).2.1 = x := ⟨_, rfl⟩
      obtain ⟨x2, hx2⟩ : ∃ x, (d'[k]!).2.2.1 = x := ⟨_, rfl⟩
      rw [hx0] at hc0 hmk'
      rw [hx1] at hc1
      rw [hx2] at hc2
      have hf2 : Fill (wr.alloc (.cells #[.int .i64 x0, .int .i64 x1, .int .i64 x2] 39)) w2.heap.size N k m := fill_below hfill (below_new wr _)
      have hbel3 := Lib.hid (hbel.trans ((below_new wr (.cells #[.int .i64 x0, .int .i64 x1, .int .i64 x2] 39)).mono hbel.size))
      obtain ⟨⟨u, hu⟩, hz⟩ := fill_at hf2 hlt
      have hmore := Lib.hid (fill_more hf2 holen.out.symm hkm)
      rw [hmk'] at hmore
      replace hbel := Lib.hid hbel
      clear hf2 hfill hx0 hx1 hx2 hmk' hmk
      go_wp2_with fail
      go_roundg (N - (k + 1))
      case measure => omega
      case rel => exact ⟨k + 1, by omega, by go_num, rfl, hmore.out, hbel3.out.setCell (p := ⟨_, _, none⟩) (Nat.le_refl _) _⟩
    · obtain rfl : k = N := by omega
      have hlt' : decide ((k : Int) < (k : Int)) = false := by simp
      have hri := Lib.hid (fill_ri hfill holen.out.symm)
      have hbel3 := Lib.hid (HB2.out.trans (hbel.mono HB2.out.size))
      replace hfill := Lib.hid hfill
      replace hbel := Lib.hid hbel
      clear hmk
      go_wp2_with fail
      go_ret
      exact ⟨_, rfl, hri.out, hbel3.out⟩

theorem adj_iff : ∀ R : List Int, Can.adjR R = true ↔ ∀ i, i + 1 < R.length → ¬ (Prp.mrkB R[i]! = true ∧ Prp.mrkB R[i + 1]! = true ∧ Prp.cccI R[i]! < Prp.cccI R[i + 1]!)
  | [] => by simp [Can.adjR]
  | [a] => by simp [Can.adjR]
  | a :: b :: t => by
    have ih := adj_iff (b :: t)
    unfold Can.adjR
    rw [Bool.and_eq_true, ih]
    constructor
    · rintro ⟨h1, h2⟩ i hi
      cases i with
      | zero =>
        intro h3
        simp at h1 h3
        rcases h1 with (h1 | h1) | h1
        · rw [h3.1] at h1; cases h1
        · rw [h3.2.1] at h1; cases h1
        · omega
      | succ i => exact h2 i (by simpa using hi)
    · intro h
      refine ⟨?_, fun i hi => h (i + 1) (by simpa using hi)⟩
      have := h 0 (by simp)
      simp at this ⊢
      cases h1 : Prp.mrkB a
      · exact Or.inl (Or.inl rfl)
      · cases h2 : Prp.mrkB b
        · exact Or.inl (Or.inr rfl)
        · exact Or.inr (this h1 h2)

/-- places in order: the numbers are -/
theorem down_sorted (l : List Int) : downP (placesI l).toArray = Can.sortedB l := by
  have hz : (placesI l).toArray.size = l.length := by simp [placesI_len]
  have hd : ∀ i, i + 1 < l.length → (KL ((placesI l).toArray)[i + 1]! ((placesI l).toArray)[i]! ↔ (Prp.mrkB l[i + 1]! = true ∧ Prp.cccI l[i + 1]! < Prp.cccI l[i]!)) := fun i hi => by
    have e1 : ∀ k, k < l.length → ((placesI l).toArray)[k]! = (l[k]!, rowAt l (k + 1), Prp.cccI l[k]!, k) := fun k hk => by
      rw [← partP_last]
      have key : ∀ n, n ≤ l.length → k < n → (partP l n)[k]! = (l[k]!, rowAt l (k + 1), Prp.cccI l[k]!, k) := fun n => by
        induction n with
        | zero => intro _ h; omega
        | succ n ih =>
          intro hn hk2
          rw [← partP_next l n (by omega)]
          by_cases e : k = n
          · subst e
            rw [getElem!_set_same _ _ _ (by rw [partP_size l k (by omega)]; omega), getElem!_pos l k hk]
          · have := ih (by omega) (by omega)
            rw [Array.getElem!_eq_getD, Array.getD_eq_getD_getElem?, Array.getElem?_setIfInBounds, if_neg (fun h => e h.symm)]
            rw [Array.getElem!_eq_getD, Array.getD_eq_getD_getElem?] at this
            exact this
      exact key l.length (Nat.le_refl _) hk
    rw [e1 (i + 1) hi, e1 i (by omega)]
    have hr := rowAt_succ l (i + 1) hi
    have hmi := Can.mrk_iff l[i + 1]
    rw [getElem!_pos l (i + 1) hi]
    unfold KL
    dsimp only
    by_cases h0 : Prp.cccI l[i + 1] = 0
    · rw [if_pos h0] at hr
      have : ¬ Prp.mrkB l[i + 1] = true := fun h => by have := hmi.1 h; omega
      constructor
      · intro h; omega
      · intro h; exact absurd h.1 this
    · rw [if_neg h0] at hr
      have h1 := Can.mrk_no l[i + 1]
      have : Prp.mrkB l[i + 1] = true := by
        cases hm : Prp.mrkB l[i + 1]
        · exact absurd (h1.1 hm) h0
        · rfl
      constructor
      · intro h; exact ⟨this, by omega⟩
      · intro h; omega
  generalize (placesI l).toArray = E at hz hd ⊢
  rw [Bool.eq_iff_iff]
  unfold downP Can.sortedB
  rw [hz, adj_iff, List.all_eq_true]
  have hrev : ∀ i, i < l.length → l.reverse[i]! = l[l.length - 1 - i]! := fun i hi => by
    rw [getElem!_pos l.reverse i (by simpa using hi), getElem!_pos l _ (by omega), List.getElem_reverse]
  constructor
  · intro h i hi
    rw [List.length_reverse] at hi
    have h2 := h (l.length - 2 - i) (List.mem_range.2 (by omega))
    have h3 := hd (l.length - 2 - i) (by omega)
    rw [hrev i (by omega), hrev (i + 1) hi, show l.length - 1 - i = l.length - 2 - i + 1 by omega, show l.length - 1 - (i + 1) = l.length - 2 - i by omega]
    rintro ⟨a, _, c⟩
    have := h3.2 ⟨a, c⟩
    simp [this] at h2
  · intro h i hi
    have hi' := List.mem_range.1 hi
    have h2 := h (l.length - 2 - i) (by rw [List.length_reverse]; omega)
    rw [hrev _ (by omega), hrev _ (by omega), show l.length - 1 - (l.length - 2 - i) = i + 1 by omega, show l.length - 1 - (l.length - 2 - i + 1) = i by omega] at h2
    have h3 := hd i (by omega)
    by_cases hk : KL E[i + 1]! E[i]!
    · have h4 := h3.1 hk
      have : Prp.mrkB l[i]! = true := by
        cases hm : Prp.mrkB l[i]!
        · have := (Can.mrk_no l[i]!).1 hm
          have := (Can.mrk_iff l[i + 1]!).1 h4.1
          omega
        · rfl
      exact absurd ⟨h4.1, this, h4.2⟩ h2
    · simp [hk]

theorem sortedC : SortedC := by
  intro v l w hl hv _
  have hpl := places_any _ l w (by omega) hv
  unfold Placed at hpl
  have hsd := down_sorted l
  have hE : (placesI l).toArray.size = l.length := by simp [placesI_len]
  obtain ⟨N, hN⟩ : ∃ N, l.length = N := ⟨_, rfl⟩
  obtain ⟨E, hEe⟩ : ∃ E, (placesI l).toArray = E := ⟨_, rfl⟩
  obtain ⟨B, hB⟩ : ∃ B, Can.sortedB l = B := ⟨_, rfl⟩
  rw [hEe] at hsd hE hpl
  rw [hB] at hsd ⊢
  rw [hN] at hE hpl hl
  have hsr := fun (b : Nat) (W : World) (h : HoldsK encP 3 W b 0 E) (hb : b < W.heap.size) => isSorted_any b N E W h hb (by omega)
  rw [hE, hsd] at hsr
  replace hsr := Lib.hid hsr
  replace hpl := Lib.hid hpl
  clear hv hE hEe hB hsd hN
  go_enter Tryd.func12, Tryd.ntmps12
  go_wp2_with fail
  refine hpl.out.mono ?_
  rintro e w1 ⟨b, rfl, hwb, hb, hH, hb1⟩
  replace hH := Lib.hid hH
  replace hb1 := Lib.hid hb1
  go_wp2_with fail
  refine (hsr.out b w1 hH.out hb).mono ?_
  rintro e w2 ⟨rfl, hb2⟩
  have hbel := Lib.hid (hb1.out.trans (hb2.mono hwb))
  go_wp2_with fail
  go_ret
  exact ⟨rfl, hbel.out⟩
end Go.Proofs.YtkhjkodeolaemaaDoor
