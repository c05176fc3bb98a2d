/- Layer 5: the document's example. -/
import Derived.Test.YtgahfbcdnbhikaaDoorPaA5
namespace Go.Proofs.YtgahfbcdnbhikaaDoor
open Go.RowKit Go.Lib

theorem below_trans5 {w w1 w2 : World} (h1 : Below w.heap.size w w1) (h2 : Below w1.heap.size w1 w2) : Below w.heap.size w w2 := h1.trans (h2.mono h1.size)
theorem join_yes (a b x : Int) (h : Par.joinI a b = some x) (w : World) : Calls Tryd.prog 8 #[.int .i64 a, .int .i64 b] w fun e w' => e = .returned (.tuple #[.int .i64 x, .bool true]) ∧ Below w.heap.size w w' := by
  have := join_any a b w
  rw [h] at this
  exact this
theorem join_not (a b : Int) (h : Par.joinI a b = none) (w : World) : Calls Tryd.prog 8 #[.int .i64 a, .int .i64 b] w fun e w' => e = .returned (.tuple #[.int .i64 0, .bool false]) ∧ Below w.heap.size w w' := by
  have := join_any a b w
  rw [h] at this
  exact this
theorem back_yes (r a b : Int) (hr : -9223372036854775808 ≤ r ∧ r ≤ 9223372036854775807) (h : Par.backI r = some (a, b)) (w : World) : Calls Tryd.prog 10 #[.int .i64 r] w fun e w' => e = .returned (.tuple #[.int .i64 a, .int .i64 b, .bool true]) ∧ Below w.heap.size w w' := by
  have := back_any r hr w
  rw [h] at this
  exact this
theorem back_not (r : Int) (hr : -9223372036854775808 ≤ r ∧ r ≤ 9223372036854775807) (h : Par.backI r = none) (w : World) : Calls Tryd.prog 10 #[.int .i64 r] w fun e w' => e = .returned (.tuple #[.int .i64 0, .int .i64 0, .bool false]) ∧ Below w.heap.size w w' := by
  have := back_any r hr w
  rw [h] at this
  exact this

set_option maxHeartbeats 1600000 in
theorem awake5 (w : World) :
    Calls Tryd.prog 7 #[] w fun e w' => e = .returned (.bool true) ∧ Below w.heap.size w w' := by
  go_enter Tryd.func7, Tryd.ntmps7
  go_wp2_with fail
  refine (join_yes 101 769 233 (by decide +kernel) _).mono ?_
  rintro e w1 ⟨rfl, hb1⟩
  replace hb1 := Lib.hid hb1
  go_wp2_with fail
  refine (join_yes 4352 4449 44032 (by decide +kernel) _).mono ?_
  rintro e w2 ⟨rfl, hb2⟩
  replace hb2 := Lib.hid (below_trans5 hb1.out hb2)
  go_wp2_with fail
  refine (back_yes 44033 44032 4520 (by omega) (by decide +kernel) _).mono ?_
  rintro e w3 ⟨rfl, hb3⟩
  replace hb3 := Lib.hid (below_trans5 hb2.out hb3)
  go_wp2_with fail
  go_ret
  exact ⟨rfl, hb3.out⟩

end Go.Proofs.YtgahfbcdnbhikaaDoor
