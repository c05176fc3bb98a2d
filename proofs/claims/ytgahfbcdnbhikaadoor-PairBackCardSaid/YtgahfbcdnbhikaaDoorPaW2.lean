/- Layer 5: the walk of PairBack. -/
import Derived.Test.YtgahfbcdnbhikaaDoorPaW0
namespace Go.Proofs.YtgahfbcdnbhikaaDoor
open Go.RowKit Go.Lib

set_option maxHeartbeats 3200000 in
theorem pairBack_walk (a b r : Int) (w : World) (_ : -9223372036854775808 ≤ a ∧ a ≤ 9223372036854775807) (_ : -9223372036854775808 ≤ b ∧ b ≤ 9223372036854775807) (hr : -9223372036854775808 ≤ r ∧ r ≤ 9223372036854775807) :
    Calls Tryd.prog 4 #[.int .i64 a, .int .i64 b, .int .i64 r] w fun e w' => e = .returned (.bool true) ∧ Below w.heap.size w w' := by
  cases hj : Par.joinI a b with
  | none =>
    have h1 := Lib.hid (join_not a b hj)
    clear hj
    cases hk : Par.backI r with
    | none =>
      have h2 := Lib.hid (back_not r hr hk)
      clear hk hr
      go_enter Tryd.func4, Tryd.ntmps4
      go_wp2_with fail
      refine (awake5 w).mono ?_
      rintro e w1 ⟨rfl, hb1⟩
      replace hb1 := Lib.hid hb1
      go_wp2_with fail
      refine (h1.out _).mono ?_
      rintro e w2 ⟨rfl, hb2⟩
      replace hb2 := Lib.hid (below_trans5 hb1.out hb2)
      go_wp2_with fail
      refine (h2.out _).mono ?_
      rintro e w3 ⟨rfl, hb3⟩
      replace hb3 := Lib.hid (below_trans5 hb2.out hb3)
      go_wp2_with fail
      go_ret
      exact ⟨rfl, hb3.out⟩
    | some p =>
      obtain ⟨c, d⟩ := p
      have h2 := Lib.hid (back_yes r c d hr hk)
      have h3 := Lib.hid (join_yes c d r (Par.back_join hk))
      clear hk hr
      go_enter Tryd.func4, Tryd.ntmps4
      go_wp2_with fail
      refine (awake5 w).mono ?_
      rintro e w1 ⟨rfl, hb1⟩
      replace hb1 := Lib.hid hb1
      go_wp2_with fail
      refine (h1.out _).mono ?_
      rintro e w2 ⟨rfl, hb2⟩
      replace hb2 := Lib.hid (below_trans5 hb1.out hb2)
      go_wp2_with fail
      refine (h2.out _).mono ?_
      rintro e w3 ⟨rfl, hb3⟩
      replace hb3 := Lib.hid (below_trans5 hb2.out hb3)
      go_wp2_with fail
      refine (h3.out _).mono ?_
      rintro e w4 ⟨rfl, hb4⟩
      replace hb4 := Lib.hid (below_trans5 hb3.out hb4)
      go_wp2_with fail
      go_ret
      exact ⟨rfl, hb4.out⟩
  | some x =>
    have h1 := Lib.hid (join_yes a b x hj)
    obtain ⟨hb, hxa, hxb⟩ := Par.join_back hj
    have hxr : -9223372036854775808 ≤ x ∧ x ≤ 9223372036854775807 := by
      have hm := Par.join_small hj
      omega
    have h0 := Lib.hid (back_yes x a b hxr hb)
    have n1 : (x == a) = false := beq_eq_false_iff_ne.2 hxa
    have n2 : (x == b) = false := beq_eq_false_iff_ne.2 hxb
    clear hj hb hxa hxb hxr
    cases hk : Par.backI r with
    | none =>
      have h2 := Lib.hid (back_not r hr hk)
      clear hk hr
      go_enter Tryd.func4, Tryd.ntmps4
      go_wp2_with fail
      refine (awake5 w).mono ?_
      rintro e w1 ⟨rfl, hb1⟩
      replace hb1 := Lib.hid hb1
      go_wp2_with fail
      refine (h1.out _).mono ?_
      rintro e w2 ⟨rfl, hb2⟩
      replace hb2 := Lib.hid (below_trans5 hb1.out hb2)
      go_wp2_with fail
      refine (h0.out _).mono ?_
      rintro e w5 ⟨rfl, hb5⟩
      replace hb5 := Lib.hid (below_trans5 hb2.out hb5)
      go_wp2_with fail
      refine (h2.out _).mono ?_
      rintro e w3 ⟨rfl, hb3⟩
      replace hb3 := Lib.hid (below_trans5 hb5.out hb3)
      go_wp2_with fail
      go_ret
      exact ⟨rfl, hb3.out⟩
    | some p =>
      obtain ⟨c, d⟩ := p
      have h2 := Lib.hid (back_yes r c d hr hk)
      have h3 := Lib.hid (join_yes c d r (Par.back_join hk))
      clear hk hr
      go_enter Tryd.func4, Tryd.ntmps4
      go_wp2_with fail
      refine (awake5 w).mono ?_
      rintro e w1 ⟨rfl, hb1⟩
      replace hb1 := Lib.hid hb1
      go_wp2_with fail
      refine (h1.out _).mono ?_
      rintro e w2 ⟨rfl, hb2⟩
      replace hb2 := Lib.hid (below_trans5 hb1.out hb2)
      go_wp2_with fail
      refine (h0.out _).mono ?_
      rintro e w5 ⟨rfl, hb5⟩
      replace hb5 := Lib.hid (below_trans5 hb2.out hb5)
      go_wp2_with fail
      refine (h2.out _).mono ?_
      rintro e w3 ⟨rfl, hb3⟩
      replace hb3 := Lib.hid (below_trans5 hb5.out hb3)
      go_wp2_with fail
      refine (h3.out _).mono ?_
      rintro e w4 ⟨rfl, hb4⟩
      replace hb4 := Lib.hid (below_trans5 hb3.out hb4)
      go_wp2_with fail
      go_ret
      exact ⟨rfl, hb4.out⟩

end Go.Proofs.YtgahfbcdnbhikaaDoor
