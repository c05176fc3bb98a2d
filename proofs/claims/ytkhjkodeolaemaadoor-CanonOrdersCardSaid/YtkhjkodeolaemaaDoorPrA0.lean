/- Layer 3: the search in a table of spans. -/
import Derived.Test.YtkhjkodeolaemaaDoorPrT
import Derived.Deep.LoopGhost
import Derived.Deep.DeepCutAuto
namespace Go.Proofs.YtkhjkodeolaemaaDoor
set_option linter.unusedSimpArgs false
set_option linter.unusedVariables false
open Go.RowKit Go.Lib

def sideI (s : Prp.Row) (r : Int) : Int := if s.2.1 < r then -1 else if r < s.1 then 1 else 0

/-- a span as a value -/
def spanV (s : Prp.Row) : Value := .agg #[.int .i64 s.1, .int .i64 s.2.1, .int .i64 s.2.2]

theorem side_any (a b c r : Int) (w : World) :
    Calls Tryd.prog 46 #[.agg #[.int .i64 a, .int .i64 b, .int .i64 c], .int .i64 r] w fun e w' => e = .returned (.int .i64 (sideI (a, b, c) r)) ∧ Below w.heap.size w w' := by
  unfold sideI
  by_cases h1 : b < r
  · simp only [if_pos h1]
    go_enter Tryd.func46, Tryd.ntmps46
    go_wp2_with fail
    go_ret
    exact ⟨rfl, below_new _ _⟩
  · simp only [if_neg h1]
    have h1' : decide (b < r) = false := by simp; omega
    by_cases h2 : r < a
    · simp only [if_pos h2]
      go_enter Tryd.func46, Tryd.ntmps46
      go_wp2_with fail
      go_ret
      exact ⟨rfl, below_new _ _⟩
    · simp only [if_neg h2]
      have h2' : decide (r < a) = false := by simp; omega
      go_enter Tryd.func46, Tryd.ntmps46
      go_wp2_with fail
      go_ret
      exact ⟨rfl, below_new _ _⟩

/-- what a search comes to -/
def BRes (T : List Prp.Row) (r : Int) (w : World) (e : Ending) (w' : World) : Prop :=
  e = .returned (.tuple #[.int .i64 (Prp.pos T r : Int), .bool (Prp.look T r).isSome]) ∧ Below w.heap.size w w'

set_option maxHeartbeats 800000 in
theorem bsearch_any (T : List Prp.Row) (hs : Prp.Sorted T) (hn : T.length ≤ 1000) (b : Nat) (r : Int) (w : World) (h : RowsAt w b T) (n : Nat) (hnT : n = T.length) :
    Calls Tryd.prog 45 #[.slice (some ⟨b, 0, none⟩) n n, .int .i64 r, .func (.func 46) #[] #[]] w (BRes T r w) := by
  have hpl := Prp.pos_le T r
  have hn1 : n ≤ 1000 := by omega
  rw [← hnT] at hpl
  replace hs := Lib.hid hs
  replace h := Lib.hid h
  replace hnT := Lib.hid hnT
  obtain ⟨p, hp⟩ : ∃ p, Prp.pos T r = p := ⟨_, rfl⟩
  rw [hp] at hpl
  replace hp := Lib.hid hp
  clear hn
  go_enter Tryd.func45, Tryd.ntmps45
  go_wp2_with fail
  go_loopg [9, 10] n (fun g i j wr => ∃ x y : Nat, i = .int .i64 x ∧ j = .int .i64 y ∧ x ≤ p ∧ p ≤ y ∧ y ≤ n ∧ g = y - x ∧ Below w.heap.size w wr)
  case atStart => exact ⟨0, n, rfl, rfl, Nat.zero_le _, hpl, Nat.le_refl _, rfl, Below.refl _ _⟩
  case round =>
    obtain ⟨x, y, rfl, rfl, hx, hy, hyl, rfl, hbel⟩ := hrel
    by_cases hlt : x < y
    · have hlt' : (x : Int) < (y : Int) := by omega
      have hk : (x + y) / 2 < n := by omega
      obtain ⟨A, B, C, hT, h0, h1, h2⟩ := rows_cells (rows_below h.out hbel) ((x + y) / 2) (by rw [← hnT.out]; exact hk)
      have hpos := Prp.pos_lt_iff hs.out r ((x + y) / 2) (by rw [← hnT.out]; exact hk)
      rw [hT, hp.out] at hpos
      replace hT := Lib.hid hT
      replace hpos := Lib.hid hpos
      replace hbel := Lib.hid hbel
      by_cases hB : B < r
      · have hv : sideI (A, B, C) r < 0 := by unfold sideI; simp only [if_pos hB]; decide
        have hkp := hpos.out.1 hB
        go_wp2_with fail
        refine (side_any _ _ _ _ _).mono ?_
        rintro e w1 ⟨rfl, hb1⟩
        replace hb1 := Lib.hid hb1
        go_wp2_with fail
        go_roundg (y - ((x + y) / 2 + 1))
        case measure => omega
        case rel => exact ⟨(x + y) / 2 + 1, y, by go_num, rfl, by omega, hy, hyl, rfl, hbel.out.trans (hb1.out.mono hbel.out.size)⟩
      · have hv : decide (sideI (A, B, C) r < 0) = false := by unfold sideI; simp only [if_neg hB]; split <;> decide
        have hkp : ¬ (x + y) / 2 < p := fun h => hB (hpos.out.2 h)
        go_wp2_with fail
        refine (side_any _ _ _ _ _).mono ?_
        rintro e w1 ⟨rfl, hb1⟩
        replace hb1 := Lib.hid hb1
        go_wp2_with fail
        go_roundg ((x + y) / 2 - x)
        case measure => omega
        case rel => exact ⟨x, (x + y) / 2, rfl, by go_num, hx, by omega, by omega, rfl, hbel.out.trans (hb1.out.mono hbel.out.size)⟩
    · obtain rfl : x = p := by omega
      have hlt' : decide ((x : Int) < (y : Int)) = false := by simp; omega
      by_cases hxn : x < n
      · have hxn' : (x : Int) < (n : Int) := by omega
        obtain ⟨A, B, C, hT, h0, h1, h2⟩ := rows_cells (rows_below h.out hbel) x (by rw [← hnT.out]; exact hxn)
        replace hT := Lib.hid hT
        replace hbel := Lib.hid hbel
        have hpos := Prp.pos_lt_iff hs.out r x (by rw [← hnT.out]; exact hxn)
        rw [hT.out, hp.out] at hpos
        have hBr : ¬ B < r := fun h => absurd (hpos.1 h) (Nat.lt_irrefl _)
        clear hpos
        by_cases hA : A ≤ r
        · have hv : sideI (A, B, C) r = 0 := by unfold sideI; rw [if_neg hBr, if_neg (by omega)]
          have hv' : (sideI (A, B, C) r == 0) = true := by rw [hv]; rfl
          have hlk := Prp.look_yes hs.out r (by rw [hp.out, ← hnT.out]; exact hxn) (by simp only [hp.out, hT.out]; exact hA)
          replace hlk := Lib.hid hlk
          clear hv
          go_wp2_with fail
          refine (side_any _ _ _ _ _).mono ?_
          rintro e w1 ⟨rfl, hb1⟩
          replace hb1 := Lib.hid hb1
          go_wp2_with fail
          go_ret2
          exact ⟨by rw [hp.out, hlk.out]; rfl, hbel.out.trans (hb1.out.mono hbel.out.size)⟩
        · have hv : (sideI (A, B, C) r == 0) = false := by unfold sideI; simp only [if_neg hBr, if_pos (show r < A by omega)]; rfl
          have hlk := Prp.look_no hs.out r (fun _ => by simp only [hp.out, hT.out]; omega)
          replace hlk := Lib.hid hlk
          go_wp2_with fail
          refine (side_any _ _ _ _ _).mono ?_
          rintro e w1 ⟨rfl, hb1⟩
          replace hb1 := Lib.hid hb1
          go_wp2_with fail
          go_ret2
          exact ⟨by rw [hp.out, hlk.out]; rfl, hbel.out.trans (hb1.out.mono hbel.out.size)⟩
      · have hxn' : decide ((x : Int) < (n : Int)) = false := by simp; omega
        have hlk := Prp.look_no hs.out r (fun h => absurd h (by rw [hp.out, ← hnT.out]; omega))
        replace hlk := Lib.hid hlk
        replace hbel := Lib.hid hbel
        go_wp2_with fail
        go_ret2
        exact ⟨by rw [hp.out, hlk.out]; rfl, hbel.out⟩

end Go.Proofs.YtkhjkodeolaemaaDoor
