/- Texts that stand together. -/
import Derived.Test.YtiidjkhkcckmkaaGreatDoorBasP
import Derived.Test.YtiidjkhkcckmkaaGreatDoorMthP
import Derived.Deep.LoopGhost
import Derived.Deep.DeepCutAuto
/- Layer 3: a table of spans in a block. -/
namespace Go.Proofs.YtiidjkhkcckmkaaGreatDoor
set_option linter.unusedSimpArgs false
set_option linter.unusedVariables false
open Go.RowKit Go.Lib
def RowsAt (w : World) (b : Nat) (T : List Prp.Row) : Prop :=
  b < w.heap.size ∧ ∀ k (h : k < T.length), w.cell? ⟨b, k * 3, none⟩ = some (.int .i64 T[k].1) ∧ w.cell? ⟨b, k * 3 + 1, none⟩ = some (.int .i64 T[k].2.1) ∧ w.cell? ⟨b, k * 3 + 2, none⟩ = some (.int .i64 T[k].2.2)
theorem rows_below {w w1 : World} {b : Nat} {T : List Prp.Row} (h : RowsAt w b T) (hb : Below w.heap.size w w1) : RowsAt w1 b T :=
  ⟨Nat.lt_of_lt_of_le h.1 hb.size, fun k hk => by rw [hb.cell h.1, hb.cell h.1, hb.cell h.1]; exact h.2 k hk⟩
theorem rows_cells {w : World} {b : Nat} {T : List Prp.Row} (h : RowsAt w b T) (k : Nat) (hk : k < T.length) : ∃ A B C : Int, T[k] = (A, B, C) ∧ w.cell? ⟨b, k * 3, none⟩ = some (.int .i64 A) ∧ w.cell? ⟨b, k * 3 + 1, none⟩ = some (.int .i64 B) ∧ w.cell? ⟨b, k * 3 + 2, none⟩ = some (.int .i64 C) :=
  ⟨_, _, _, rfl, h.2 k hk⟩
def flat (T : List Prp.Row) : List Value := T.flatMap fun s => [.int .i64 s.1, .int .i64 s.2.1, .int .i64 s.2.2]
theorem flat_at (T : List Prp.Row) (k : Nat) (hk : k < T.length) : (flat T)[k * 3]? = some (.int .i64 T[k].1) ∧ (flat T)[k * 3 + 1]? = some (.int .i64 T[k].2.1) ∧ (flat T)[k * 3 + 2]? = some (.int .i64 T[k].2.2) := by
  induction T generalizing k with
  | nil => simp at hk
  | cons s t ih =>
    cases k with
    | zero => exact ⟨rfl, rfl, rfl⟩
    | succ k =>
      have h := ih k (by simpa using hk)
      have e : flat (s :: t) = .int .i64 s.1 :: .int .i64 s.2.1 :: .int .i64 s.2.2 :: flat t := rfl
      rw [e]
      rw [show (k + 1) * 3 = k * 3 + 3 by omega]
      exact ⟨h.1, h.2.1, h.2.2⟩
theorem rows_new (w : World) (cs : Array Value) (t : TypeId) (T : List Prp.Row) (h : cs.toList = flat T) : RowsAt (w.alloc (.cells cs t)) w.heap.size T := by
  refine ⟨by simp, fun k hk => ?_⟩
  obtain ⟨h0, h1, h2⟩ := flat_at T k hk
  rw [← h] at h0 h1 h2
  simp only [Array.getElem?_toList] at h0 h1 h2
  refine ⟨?_, ?_, ?_⟩
  · simpa using h0
  · simpa using h1
  · simpa using h2
end Go.Proofs.YtiidjkhkcckmkaaGreatDoor

/- Layer 3: the search in a table of spans. -/
namespace Go.Proofs.YtiidjkhkcckmkaaGreatDoor
set_option linter.unusedSimpArgs false
set_option linter.unusedVariables false
open Go.RowKit Go.Lib
def sideI (s : Prp.Row) (r : Int) : Int := if s.2.1 < r then -1 else if r < s.1 then 1 else 0
theorem side_any (a b c r : Int) (w : World) :
    Calls Tryz.prog 190 #[.agg #[.int .i64 a, .int .i64 b, .int .i64 c], .int .i64 r] w fun e w' => e = .returned (.int .i64 (sideI (a, b, c) r)) ∧ Below w.heap.size w w' := by
  unfold sideI
  by_cases h1 : b < r
  · simp only [if_pos h1]
    go_enter Tryz.func190, Tryz.ntmps190
    go_wp2_with fail
    go_ret
    exact ⟨rfl, below_new _ _⟩
  · simp only [if_neg h1]
    have h1' : decide (b < r) = false := by simp; omega
    by_cases h2 : r < a
    · simp only [if_pos h2]
      go_enter Tryz.func190, Tryz.ntmps190
      go_wp2_with fail
      go_ret
      exact ⟨rfl, below_new _ _⟩
    · simp only [if_neg h2]
      have h2' : decide (r < a) = false := by simp; omega
      go_enter Tryz.func190, Tryz.ntmps190
      go_wp2_with fail
      go_ret
      exact ⟨rfl, below_new _ _⟩
def BRes (T : List Prp.Row) (r : Int) (w : World) (e : Ending) (w' : World) : Prop :=
  e = .returned (.tuple #[.int .i64 (Prp.pos T r : Int), .bool (Prp.look T r).isSome]) ∧ Below w.heap.size w w'
set_option maxHeartbeats 800000 in
theorem bsearch_any (T : List Prp.Row) (hs : Prp.Sorted T) (hn : T.length ≤ 1000) (b : Nat) (r : Int) (w : World) (h : RowsAt w b T) (n : Nat) (hnT : n = T.length) :
    Calls Tryz.prog 189 #[.slice (some ⟨b, 0, none⟩) n n, .int .i64 r, .func (.func 190) #[] #[]] w (BRes T r w) := by
  have hpl := Prp.pos_le T r
  have hn1 : n ≤ 1000 := by omega
  rw [← hnT] at hpl
  replace hs := Lib.hid hs
  replace h := Lib.hid h
  replace hnT := Lib.hid hnT
  obtain ⟨p, hp⟩ : ∃ p, Prp.pos T r = p := ⟨_, rfl⟩
  rw [hp] at hpl
  replace hp := Lib.hid hp
  clear hn
  go_enter Tryz.func189, Tryz.ntmps189
  go_wp2_with fail
  go_loopg [9, 10] n (fun g i j wr => ∃ x y : Nat, i = .int .i64 x ∧ j = .int .i64 y ∧ x ≤ p ∧ p ≤ y ∧ y ≤ n ∧ g = y - x ∧ Below w.heap.size w wr)
  case atStart => exact ⟨0, n, rfl, rfl, Nat.zero_le _, hpl, Nat.le_refl _, rfl, Below.refl _ _⟩
  case round =>
    obtain ⟨x, y, rfl, rfl, hx, hy, hyl, rfl, hbel⟩ := hrel
    by_cases hlt : x < y
    · have hlt' : (x : Int) < (y : Int) := by omega
      have hk : (x + y) / 2 < n := by omega
      obtain ⟨A, B, C, hT, h0, h1, h2⟩ := rows_cells (rows_below h.out hbel) ((x + y) / 2) (by rw [← hnT.out]; exact hk)
      have hpos := Prp.pos_lt_iff hs.out r ((x + y) / 2) (by rw [← hnT.out]; exact hk)
      rw [hT, hp.out] at hpos
      replace hT := Lib.hid hT
      replace hpos := Lib.hid hpos
      replace hbel := Lib.hid hbel
      by_cases hB : B < r
      · have hv : sideI (A, B, C) r < 0 := by unfold sideI; simp only [if_pos hB]; decide
        have hkp := hpos.out.1 hB
        go_wp2_with fail
        refine (side_any _ _ _ _ _).mono ?_
        rintro e w1 ⟨rfl, hb1⟩
        replace hb1 := Lib.hid hb1
        go_wp2_with fail
        go_roundg (y - ((x + y) / 2 + 1))
        case measure => omega
        case rel => exact ⟨(x + y) / 2 + 1, y, by go_num, rfl, by omega, hy, hyl, rfl, hbel.out.trans (hb1.out.mono hbel.out.size)⟩
      · have hv : decide (sideI (A, B, C) r < 0) = false := by unfold sideI; simp only [if_neg hB]; split <;> decide
        have hkp : ¬ (x + y) / 2 < p := fun h => hB (hpos.out.2 h)
        go_wp2_with fail
        refine (side_any _ _ _ _ _).mono ?_
        rintro e w1 ⟨rfl, hb1⟩
        replace hb1 := Lib.hid hb1
        go_wp2_with fail
        go_roundg ((x + y) / 2 - x)
        case measure => omega
        case rel => exact ⟨x, (x + y) / 2, rfl, by go_num, hx, by omega, by omega, rfl, hbel.out.trans (hb1.out.mono hbel.out.size)⟩
    · obtain rfl : x = p := by omega
      have hlt' : decide ((x : Int) < (y : Int)) = false := by simp; omega
      by_cases hxn : x < n
      · have hxn' : (x : Int) < (n : Int) := by omega
        obtain ⟨A, B, C, hT, h0, h1, h2⟩ := rows_cells (rows_below h.out hbel) x (by rw [← hnT.out]; exact hxn)
        replace hT := Lib.hid hT
        replace hbel := Lib.hid hbel
        have hpos := Prp.pos_lt_iff hs.out r x (by rw [← hnT.out]; exact hxn)
        rw [hT.out, hp.out] at hpos
        have hBr : ¬ B < r := fun h => absurd (hpos.1 h) (Nat.lt_irrefl _)
        clear hpos
        by_cases hA : A ≤ r
        · have hv : sideI (A, B, C) r = 0 := by unfold sideI; rw [if_neg hBr, if_neg (by omega)]
          have hv' : (sideI (A, B, C) r == 0) = true := by rw [hv]; rfl
          have hlk := Prp.look_yes hs.out r (by rw [hp.out, ← hnT.out]; exact hxn) (by simp only [hp.out, hT.out]; exact hA)
          replace hlk := Lib.hid hlk
          clear hv
          go_wp2_with fail
          refine (side_any _ _ _ _ _).mono ?_
          rintro e w1 ⟨rfl, hb1⟩
          replace hb1 := Lib.hid hb1
          go_wp2_with fail
          go_ret2
          exact ⟨by rw [hp.out, hlk.out]; rfl, hbel.out.trans (hb1.out.mono hbel.out.size)⟩
        · have hv : (sideI (A, B, C) r == 0) = false := by unfold sideI; simp only [if_neg hBr, if_pos (show r < A by omega)]; rfl
          have hlk := Prp.look_no hs.out r (fun _ => by simp only [hp.out, hT.out]; omega)
          replace hlk := Lib.hid hlk
          go_wp2_with fail
          refine (side_any _ _ _ _ _).mono ?_
          rintro e w1 ⟨rfl, hb1⟩
          replace hb1 := Lib.hid hb1
          go_wp2_with fail
          go_ret2
          exact ⟨by rw [hp.out, hlk.out]; rfl, hbel.out.trans (hb1.out.mono hbel.out.size)⟩
      · have hxn' : decide ((x : Int) < (n : Int)) = false := by simp; omega
        have hlk := Prp.look_no hs.out r (fun h => absurd h (by rw [hp.out, ← hnT.out]; omega))
        replace hlk := Lib.hid hlk
        replace hbel := Lib.hid hbel
        go_wp2_with fail
        go_ret2
        exact ⟨by rw [hp.out, hlk.out]; rfl, hbel.out⟩
end Go.Proofs.YtiidjkhkcckmkaaGreatDoor

/- Layer 3: find. -/
namespace Go.Proofs.YtiidjkhkcckmkaaGreatDoor
set_option linter.unusedSimpArgs false
set_option linter.unusedVariables false
open Go.RowKit Go.Lib
def FRes (T : List Prp.Row) (r : Int) (w : World) (e : Ending) (w' : World) : Prop :=
  ∃ a b : Int, e = .returned (.tuple #[.agg #[.int .i64 a, .int .i64 b, .int .i64 ((Prp.look T r).getD 0)], .bool (Prp.look T r).isSome]) ∧ Below w.heap.size w w'
theorem own3 {w w1 : World} {x y z : Value} {t : TypeId} (hb : Below (w.alloc (.cells #[x, y, z] t)).heap.size (w.alloc (.cells #[x, y, z] t)) w1) :
    (w1.cell? ⟨w.heap.size, 0, none⟩ = some x ∧ w1.cell? ⟨w.heap.size, 1, none⟩ = some y ∧ w1.cell? ⟨w.heap.size, 2, none⟩ = some z) ∧
    (w1.frozen? ⟨w.heap.size, 0, none⟩ = false ∧ w1.frozen? ⟨w.heap.size, 1, none⟩ = false ∧ w1.frozen? ⟨w.heap.size, 2, none⟩ = false) ∧ w.heap.size < w1.heap.size := by
  have hlt : w.heap.size < (w.alloc (.cells #[x, y, z] t)).heap.size := by simp
  have h := fun o => hb.cell (p := ⟨w.heap.size, o, none⟩) hlt
  have f := fun o => hb.frozen (p := ⟨w.heap.size, o, none⟩) hlt
  exact ⟨⟨(h 0).trans (by simp), (h 1).trans (by simp), (h 2).trans (by simp)⟩, ⟨(f 0).trans (by simp), (f 1).trans (by simp), (f 2).trans (by simp)⟩, Nat.lt_of_lt_of_le hlt hb.size⟩
set_option maxHeartbeats 800000 in
theorem find_any (T : List Prp.Row) (hs : Prp.Sorted T) (hn : T.length ≤ 1000) (b : Nat) (r : Int) (w : World) (h : RowsAt w b T) (n : Nat) (hnT : n = T.length) :
    Calls Tryz.prog 165 #[.int .i64 r, .slice (some ⟨b, 0, none⟩) n n] w (FRes T r w) := by
  have hpl := Prp.pos_le T r
  replace hn := Lib.hid hn
  replace hs := Lib.hid hs
  cases hlk : Prp.look T r with
  | none =>
    replace hlk := Lib.hid hlk
    replace h := Lib.hid h
    replace hnT := Lib.hid hnT
    go_enter Tryz.func165, Tryz.ntmps165
    go_wp2_with fail
    refine (bsearch_any T hs.out hn.out b r _ (rows_below h.out (below_new _ _)) n hnT.out).mono ?_
    rintro e w1 ⟨rfl, hb1⟩
    rw [hlk.out]
    obtain ⟨⟨c0, c1, c2⟩, ⟨f0, f1, f2⟩, hz⟩ := own3 hb1
    replace hb1 := Lib.hid hb1
    go_wp2_with fail
    exact bodyPost_ret (v := .tuple #[.agg #[.int .i64 0, .int .i64 0, .int .i64 0], .bool false]) (by simp [results, Tryz.results165, go_sem, c0, c1, c2]) rfl ⟨0, 0, by rw [hlk.out]; rfl, ((((below_in hb1.out).setCell (by simp) _).setCell (by simp) _).setCell (by simp) _)⟩
  | some v =>
    obtain ⟨hpn, hv⟩ := Prp.look_some hs.out hlk
    obtain ⟨A, B, C, hT, h0, h1, h2⟩ := rows_cells h _ hpn
    rw [hT] at hv
    obtain rfl : C = v := hv
    obtain ⟨p, hp⟩ : ∃ p, Prp.pos T r = p := ⟨_, rfl⟩
    rw [hp] at h0 h1 h2 hpn hpl
    rw [← hnT] at hpn
    have hp1 : (p : Int) < (n : Int) := by omega
    have hn1 : n ≤ 1000 := by have := hn.out; omega
    have hb := h.1
    replace hT := Lib.hid hT
    replace hlk := Lib.hid hlk
    replace h := Lib.hid h
    replace hnT := Lib.hid hnT
    go_enter Tryz.func165, Tryz.ntmps165
    go_wp2_with fail
    refine (bsearch_any T hs.out hn.out b r _ (rows_below h.out (below_new _ _)) n hnT.out).mono ?_
    rintro e w1 ⟨rfl, hb1⟩
    rw [hlk.out, hp]
    replace hp := Lib.hid hp
    obtain ⟨⟨c0, c1, c2⟩, ⟨f0, f1, f2⟩, hz⟩ := own3 hb1
    have hbel := Lib.hid (below_in hb1)
    have g0 : w1.cell? ⟨b, p * 3, none⟩ = some (.int .i64 A) := by rw [hbel.out.cell hb]; exact h0
    have g1 : w1.cell? ⟨b, p * 3 + 1, none⟩ = some (.int .i64 B) := by rw [hbel.out.cell hb]; exact h1
    have g2 : w1.cell? ⟨b, p * 3 + 2, none⟩ = some (.int .i64 C) := by rw [hbel.out.cell hb]; exact h2
    clear h0 h1 h2
    replace hb1 := Lib.hid hb1
    go_wp2_with fail
    exact bodyPost_ret (v := .tuple #[.agg #[.int .i64 A, .int .i64 B, .int .i64 C], .bool true]) (by simp [results, Tryz.results165, go_sem, c0, c1, c2]) rfl ⟨A, B, by rw [hlk.out]; rfl, (((hbel.out.setCell (by simp) _).setCell (by simp) _).setCell (by simp) _)⟩
end Go.Proofs.YtiidjkhkcckmkaaGreatDoor

/- Layer 3: a table that was just made; Ccc and Mark. -/
namespace Go.Proofs.YtiidjkhkcckmkaaGreatDoor
set_option linter.unusedSimpArgs false
set_option linter.unusedVariables false
open Go.RowKit Go.Lib
set_option maxRecDepth 100000 in
set_option maxHeartbeats 1600000 in
theorem ccc_any (r : Int) (w : World) :
    Calls Tryz.prog 148 #[.int .i64 r] w fun e w' => e = .returned (.int .i64 (Prp.cccI r)) ∧ Below w.heap.size w w' := by
  unfold Prp.cccI
  go_enter Tryz.func148, Tryz.ntmps148
  go_upto_region 1 with (fail)
  refine wp_region_lit ?_
  refine wpList_runOps 44 (a' := { tmps := #[.int .i64 r, undef, .int .i64 0, undef, undef, undef, .int .i64 r, .agg #[.int .i64 768, .int .i64 788, .int .i64 230], .agg #[.int .i64 789, .int .i64 789, .int .i64 232], .agg #[.int .i64 790, .int .i64 793, .int .i64 220], .agg #[.int .i64 794, .int .i64 794, .int .i64 232], .agg #[.int .i64 795, .int .i64 795, .int .i64 216], .agg #[.int .i64 796, .int .i64 800, .int .i64 220], .agg #[.int .i64 801, .int .i64 802, .int .i64 202], .agg #[.int .i64 803, .int .i64 806, .int .i64 220], .agg #[.int .i64 807, .int .i64 808, .int .i64 202], .agg #[.int .i64 809, .int .i64 819, .int .i64 220], .agg #[.int .i64 820, .int .i64 824, .int .i64 1], .agg #[.int .i64 825, .int .i64 828, .int .i64 220], .agg #[.int .i64 829, .int .i64 836, .int .i64 230], .agg #[.int .i64 837, .int .i64 837, .int .i64 240], .agg #[.int .i64 838, .int .i64 838, .int .i64 230], .agg #[.int .i64 839, .int .i64 841, .int .i64 220], .agg #[.int .i64 842, .int .i64 844, .int .i64 230], .agg #[.int .i64 845, .int .i64 846, .int .i64 220], .agg #[.int .i64 848, .int .i64 850, .int .i64 230], .agg #[.int .i64 851, .int .i64 854, .int .i64 220], .agg #[.int .i64 855, .int .i64 855, .int .i64 230], .agg #[.int .i64 856, .int .i64 856, .int .i64 232], .agg #[.int .i64 857, .int .i64 858, .int .i64 220], .agg #[.int .i64 859, .int .i64 859, .int .i64 230], .agg #[.int .i64 860, .int .i64 860, .int .i64 233], .agg #[.int .i64 861, .int .i64 862, .int .i64 234], .agg #[.int .i64 863, .int .i64 863, .int .i64 233], .agg #[.int .i64 864, .int .i64 865, .int .i64 234], .agg #[.int .i64 866, .int .i64 866, .int .i64 233], .agg #[.int .i64 867, .int .i64 879, .int .i64 230], .agg #[.int .i64 1611, .int .i64 1611, .int .i64 27], .agg #[.int .i64 1612, .int .i64 1612, .int .i64 28], .agg #[.int .i64 1613, .int .i64 1613, .int .i64 29], .agg #[.int .i64 1614, .int .i64 1614, .int .i64 30], .agg #[.int .i64 1615, .int .i64 1615, .int .i64 31], .agg #[.int .i64 1616, .int .i64 1616, .int .i64 32], .agg #[.int .i64 1617, .int .i64 1617, .int .i64 33], .agg #[.int .i64 1618, .int .i64 1618, .int .i64 34], .agg #[.int .i64 2364, .int .i64 2364, .int .i64 7], .agg #[.int .i64 2381, .int .i64 2381, .int .i64 9], .agg #[.int .i64 8400, .int .i64 8401, .int .i64 230], .agg #[.int .i64 12441, .int .i64 12442, .int .i64 8], .slice (some ⟨w.heap.size, 0, none⟩) 42 42, undef, undef, undef, undef, undef], defers := [] }) (w' := w.alloc (.cells (flat Prp.classes).toArray 187)) (by kernel_rfl) ?_
  simp only [List.drop_succ_cons, List.drop_zero]
  go_wp2_with fail
  refine (find_any Prp.classes Prp.sorted_classes (by decide) _ r _ (rows_new w _ _ Prp.classes rfl) 42 rfl).mono ?_
  rintro e w1 ⟨a, b, rfl, hb1⟩
  have hbel := Lib.hid (below_in hb1)
  clear hb1
  go_wp2_with fail
  go_ret
  exact ⟨rfl, hbel.out.trans ((below_new w1 _).mono hbel.out.size)⟩
theorem mark_any (r : Int) (w : World) :
    Calls Tryz.prog 118 #[.int .i64 r] w fun e w' => e = .returned (.bool (Prp.mrkB r)) ∧ Below w.heap.size w w' := by
  unfold Prp.mrkB
  go_enter Tryz.func118, Tryz.ntmps118
  go_wp2_with fail
  refine (ccc_any r _).mono ?_
  rintro e w1 ⟨rfl, hb1⟩
  replace hb1 := Lib.hid hb1
  go_wp2_with fail
  go_ret
  exact ⟨rfl, hb1.out⟩
end Go.Proofs.YtiidjkhkcckmkaaGreatDoor

