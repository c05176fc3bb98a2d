/- Layer 5: the walk of PairIs. -/
import Derived.Test.YtgahfbcdnbhikaaDoorPaW0
import Derived.Test.YtgahfbcdnbhikaaDoorPaR2
namespace Go.Proofs.YtgahfbcdnbhikaaDoor
open Go.RowKit Go.Lib

/-- the two values of an answer -/
theorem optI_form (o : Option Int) : ∃ (x : Int) (q : Bool), optI o = .tuple #[.int .i64 x, .bool q] := by cases o <;> exact ⟨_, _, rfl⟩
theorem optII_form (o : Option (Int × Int)) : ∃ (x y : Int) (q : Bool), optII o = .tuple #[.int .i64 x, .int .i64 y, .bool q] := by
  cases o with
  | none => exact ⟨_, _, _, rfl⟩
  | some p => obtain ⟨a, b⟩ := p; exact ⟨_, _, _, rfl⟩

set_option maxHeartbeats 1600000 in
theorem pairIs_walk (a b r : Int) (w : World) (_ : -9223372036854775808 ≤ a ∧ a ≤ 9223372036854775807) (_ : -9223372036854775808 ≤ b ∧ b ≤ 9223372036854775807) (hr : -9223372036854775808 ≤ r ∧ r ≤ 9223372036854775807) :
    Calls Tryd.prog 3 #[.int .i64 a, .int .i64 b, .int .i64 r] w fun e w' => e = .returned (.bool true) ∧ Below w.heap.size w w' := by
  have hj := join_any a b
  have hrj := rjoin_any a b
  have hk := back_any r hr
  have hrk := rback_any r
  unfold JoinRes at hj
  unfold BackRes at hk
  obtain ⟨x, q, h1⟩ := optI_form (Par.joinI a b)
  obtain ⟨y, z, p, h2⟩ := optII_form (Par.backI r)
  rw [h1] at hj hrj
  rw [h2] at hk hrk
  clear h1 h2 hr
  replace hj := Lib.hid hj
  replace hrj := Lib.hid hrj
  replace hk := Lib.hid hk
  replace hrk := Lib.hid hrk
  go_enter Tryd.func3, Tryd.ntmps3
  go_wp2_with fail
  refine (awake5 w).mono ?_
  rintro e w1 ⟨rfl, hb1⟩
  replace hb1 := Lib.hid hb1
  go_wp2_with fail
  refine (hj.out _).mono ?_
  rintro e w2 ⟨rfl, hb2⟩
  replace hb2 := Lib.hid (below_trans5 hb1.out hb2)
  go_wp2_with fail
  refine (hrj.out _).mono ?_
  rintro e w3 ⟨rfl, rfl⟩
  go_wp2_with fail
  refine (hk.out _).mono ?_
  rintro e w4 ⟨rfl, hb4⟩
  replace hb4 := Lib.hid (below_trans5 hb2.out hb4)
  go_wp2_with fail
  refine (hrk.out _).mono ?_
  rintro e w5 ⟨rfl, rfl⟩
  go_wp2_with fail
  go_ret
  exact ⟨by simp, hb4.out⟩

end Go.Proofs.YtgahfbcdnbhikaaDoor
