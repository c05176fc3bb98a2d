/- Layer 3: the walk of PropIs. -/
import Derived.Test.YtccjabckojkomaaPrW0
import Derived.Test.YtccjabckojkomaaPrRA
namespace Go.Proofs.Ytccjabckojkomaa
open Go.RowKit Go.Lib

set_option maxHeartbeats 800000 in
theorem propIs_walk (r : Int) (w : World) (_ : -9223372036854775808 ≤ r ∧ r ≤ 9223372036854775807) :
    Calls Try.prog 3 #[.int .i64 r] w fun e w' => e = .returned (.bool true) ∧ Below w.heap.size w w' := by
  go_enter Try.func3, Try.ntmps3
  go_wp2_with fail
  refine (awake_any w).mono ?_
  rintro e w1 ⟨rfl, hb1⟩
  replace hb1 := Lib.hid hb1
  go_wp2_with fail
  refine (ccc_any r _).mono ?_
  rintro e w2 ⟨rfl, hb2⟩
  replace hb2 := Lib.hid (below_trans hb1.out hb2)
  go_wp2_with fail
  refine (rccc_any r _).mono ?_
  rintro e w3 ⟨rfl, hb3⟩
  replace hb3 := Lib.hid (below_trans hb2.out hb3)
  go_wp2_with fail
  refine (gcb_any r _).mono ?_
  rintro e w4 ⟨rfl, hb4⟩
  replace hb4 := Lib.hid (below_trans hb3.out hb4)
  go_wp2_with fail
  refine (rgcb_any r _).mono ?_
  rintro e w5 ⟨rfl, hb5⟩
  replace hb5 := Lib.hid (below_trans hb4.out hb5)
  go_wp2_with fail
  refine (drops_any r _).mono ?_
  rintro e w6 ⟨rfl, hb6⟩
  replace hb6 := Lib.hid (below_trans hb5.out hb6)
  go_wp2_with fail
  refine (rdrops_any r _).mono ?_
  rintro e w7 ⟨rfl, hb7⟩
  replace hb7 := Lib.hid (below_trans hb6.out hb7)
  go_wp2_with fail
  refine (mark_any r _).mono ?_
  rintro e w8 ⟨rfl, hb8⟩
  replace hb8 := Lib.hid (below_trans hb7.out hb8)
  go_wp2_with fail
  refine (rmark_any r _).mono ?_
  rintro e w9 ⟨rfl, hb9⟩
  replace hb9 := Lib.hid (below_trans hb8.out hb9)
  go_wp2_with fail
  go_ret
  exact ⟨rfl, hb9.out⟩
end Go.Proofs.Ytccjabckojkomaa
