/- Layer 3: the document's example. -/
import Derived.Test.YtccjabckojkomaaPrA3
import Derived.Test.YtccjabckojkomaaPrA4
namespace Go.Proofs.Ytccjabckojkomaa
open Go.RowKit Go.Lib

/-- Ccc, Gcb, Drops, Mark of a number whose properties are known -/
theorem ccc_is (r c : Int) (h : Prp.cccI r = c) (w : World) : Calls Try.prog 9 #[.int .i64 r] w fun e w' => e = .returned (.int .i64 c) ∧ Below w.heap.size w w' := h ▸ ccc_any r w
theorem gcb_is (r c : Int) (h : Prp.gcbI r = c) (w : World) : Calls Try.prog 11 #[.int .i64 r] w fun e w' => e = .returned (.int .i64 c) ∧ Below w.heap.size w w' := h ▸ gcb_any r w
theorem drops_is (r : Int) (c : Bool) (h : Prp.drpB r = c) (w : World) : Calls Try.prog 13 #[.int .i64 r] w fun e w' => e = .returned (.bool c) ∧ Below w.heap.size w w' := h ▸ drops_any r w
theorem mark_is (r : Int) (c : Bool) (h : Prp.mrkB r = c) (w : World) : Calls Try.prog 15 #[.int .i64 r] w fun e w' => e = .returned (.bool c) ∧ Below w.heap.size w w' := h ▸ mark_any r w

theorem below_trans {w w1 w2 : World} (h1 : Below w.heap.size w w1) (h2 : Below w1.heap.size w1 w2) : Below w.heap.size w w2 := h1.trans (h2.mono h1.size)

set_option maxHeartbeats 800000 in
theorem awake_any (w : World) :
    Calls Try.prog 8 #[] w fun e w' => e = .returned (.bool true) ∧ Below w.heap.size w w' := by
  go_enter Try.func8, Try.ntmps8
  go_wp2_with fail
  refine (ccc_is 769 230 (by decide +kernel) _).mono ?_
  rintro e w1 ⟨rfl, hb1⟩
  replace hb1 := Lib.hid hb1
  go_wp2_with fail
  refine (gcb_is 8205 5 (by decide +kernel) _).mono ?_
  rintro e w2 ⟨rfl, hb2⟩
  replace hb2 := Lib.hid (below_trans hb1.out hb2)
  go_wp2_with fail
  refine (drops_is 8205 true (by decide +kernel) _).mono ?_
  rintro e w3 ⟨rfl, hb3⟩
  replace hb3 := Lib.hid (below_trans hb2.out hb3)
  go_wp2_with fail
  refine (mark_is 769 true (by decide +kernel) _).mono ?_
  rintro e w4 ⟨rfl, hb4⟩
  replace hb4 := Lib.hid (below_trans hb3.out hb4)
  go_wp2_with fail
  refine (gcb_is 44032 12 (by decide +kernel) _).mono ?_
  rintro e w5 ⟨rfl, hb5⟩
  replace hb5 := Lib.hid (below_trans hb4.out hb5)
  go_wp2_with fail
  go_ret
  exact ⟨rfl, hb5.out⟩
end Go.Proofs.Ytccjabckojkomaa
