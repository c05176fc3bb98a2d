/- Layer 3: find. -/
import Derived.Test.YtkhjkodeolaemaaDoorPrA0
namespace Go.Proofs.YtkhjkodeolaemaaDoor
set_option linter.unusedSimpArgs false
set_option linter.unusedVariables false
open Go.RowKit Go.Lib

/-- what find comes to -/
def FRes (T : List Prp.Row) (r : Int) (w : World) (e : Ending) (w' : World) : Prop :=
  ∃ a b : Int, e = .returned (.tuple #[.agg #[.int .i64 a, .int .i64 b, .int .i64 ((Prp.look T r).getD 0)], .bool (Prp.look T r).isSome]) ∧ Below w.heap.size w w'

theorem own3 {w w1 : World} {x y z : Value} {t : TypeId} (hb : Below (w.alloc (.cells #[x, y, z] t)).heap.size (w.alloc (.cells #[x, y, z] t)) w1) :
    (w1.cell? ⟨w.heap.size, 0, none⟩ = some x ∧ w1.cell? ⟨w.heap.size, 1, none⟩ = some y ∧ w1.cell? ⟨w.heap.size, 2, none⟩ = some z) ∧
    (w1.frozen? ⟨w.heap.size, 0, none⟩ = false ∧ w1.frozen? ⟨w.heap.size, 1, none⟩ = false ∧ w1.frozen? ⟨w.heap.size, 2, none⟩ = false) ∧ w.heap.size < w1.heap.size := by
  have hlt : w.heap.size < (w.alloc (.cells #[x, y, z] t)).heap.size := by simp
  have h := fun o => hb.cell (p := ⟨w.heap.size, o, none⟩) hlt
  have f := fun o => hb.frozen (p := ⟨w.heap.size, o, none⟩) hlt
  exact ⟨⟨(h 0).trans (by simp), (h 1).trans (by simp), (h 2).trans (by simp)⟩, ⟨(f 0).trans (by simp), (f 1).trans (by simp), (f 2).trans (by simp)⟩, Nat.lt_of_lt_of_le hlt hb.size⟩

set_option maxHeartbeats 800000 in
theorem find_any (T : List Prp.Row) (hs : Prp.Sorted T) (hn : T.length ≤ 1000) (b : Nat) (r : Int) (w : World) (h : RowsAt w b T) (n : Nat) (hnT : n = T.length) :
    Calls Tryd.prog 31 #[.int .i64 r, .slice (some ⟨b, 0, none⟩) n n] w (FRes T r w) := by
  have hpl := Prp.pos_le T r
  replace hn := Lib.hid hn
  replace hs := Lib.hid hs
  cases hlk : Prp.look T r with
  | none =>
    replace hlk := Lib.hid hlk
    replace h := Lib.hid h
    replace hnT := Lib.hid hnT
    go_enter Tryd.func31, Tryd.ntmps31
    go_wp2_with fail
    refine (bsearch_any T hs.out hn.out b r _ (rows_below h.out (below_new _ _)) n hnT.out).mono ?_
    rintro e w1 ⟨rfl, hb1⟩
    rw [hlk.out]
    obtain ⟨⟨c0, c1, c2⟩, ⟨f0, f1, f2⟩, hz⟩ := own3 hb1
    replace hb1 := Lib.hid hb1
    go_wp2_with fail
    exact bodyPost_ret (v := .tuple #[.agg #[.int .i64 0, .int .i64 0, .int .i64 0], .bool false]) (by simp [results, Tryd.results31, go_sem, c0, c1, c2]) rfl ⟨0, 0, by rw [hlk.out]; rfl, ((((below_in hb1.out).setCell (by simp) _).setCell (by simp) _).setCell (by simp) _)⟩
  | some v =>
    obtain ⟨hpn, hv⟩ := Prp.look_some hs.out hlk
    obtain ⟨A, B, C, hT, h0, h1, h2⟩ := rows_cells h _ hpn
    rw [hT] at hv
    obtain rfl : C = v := hv
    obtain ⟨p, hp⟩ : ∃ p, Prp.pos T r = p := ⟨_, rfl⟩
    rw [hp] at h0 h1 h2 hpn hpl
    rw [← hnT] at hpn
    have hp1 : (p : Int) < (n : Int) := by omega
    have hn1 : n ≤ 1000 := by have := hn.out; omega
    have hb := h.1
    replace hT := Lib.hid hT
    replace hlk := Lib.hid hlk
    replace h := Lib.hid h
    replace hnT := Lib.hid hnT
    go_enter Tryd.func31, Tryd.ntmps31
    go_wp2_with fail
    refine (bsearch_any T hs.out hn.out b r _ (rows_below h.out (below_new _ _)) n hnT.out).mono ?_
    rintro e w1 ⟨rfl, hb1⟩
    rw [hlk.out, hp]
    replace hp := Lib.hid hp
    obtain ⟨⟨c0, c1, c2⟩, ⟨f0, f1, f2⟩, hz⟩ := own3 hb1
    have hbel := Lib.hid (below_in hb1)
    have g0 : w1.cell? ⟨b, p * 3, none⟩ = some (.int .i64 A) := by rw [hbel.out.cell hb]; exact h0
    have g1 : w1.cell? ⟨b, p * 3 + 1, none⟩ = some (.int .i64 B) := by rw [hbel.out.cell hb]; exact h1
    have g2 : w1.cell? ⟨b, p * 3 + 2, none⟩ = some (.int .i64 C) := by rw [hbel.out.cell hb]; exact h2
    clear h0 h1 h2
    replace hb1 := Lib.hid hb1
    go_wp2_with fail
    exact bodyPost_ret (v := .tuple #[.agg #[.int .i64 A, .int .i64 B, .int .i64 C], .bool true]) (by simp [results, Tryd.results31, go_sem, c0, c1, c2]) rfl ⟨A, B, by rw [hlk.out]; rfl, (((hbel.out.setCell (by simp) _).setCell (by simp) _).setCell (by simp) _)⟩
end Go.Proofs.YtkhjkodeolaemaaDoor
