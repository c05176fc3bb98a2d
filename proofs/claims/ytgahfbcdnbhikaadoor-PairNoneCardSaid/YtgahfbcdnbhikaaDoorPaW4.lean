/- Layer 5: the walk of PairNone. -/
import Derived.Test.YtgahfbcdnbhikaaDoorPaW0
import Derived.Test.YtgahfbcdnbhikaaDoorPaY
import Derived.Test.YtgahfbcdnbhikaaDoorPrA3
namespace Go.Proofs.YtgahfbcdnbhikaaDoor
open Go.RowKit Go.Lib

theorem markOf (r : Int) (c : Bool) (h : Prp.mrkB r = c) (w : World) : Calls Tryd.prog 14 #[.int .i64 r] w fun e w' => e = .returned (.bool c) ∧ Below w.heap.size w w' := h ▸ mark_any r w
theorem gcbOf (r c : Int) (h : Prp.gcbI r = c) (w : World) : Calls Tryd.prog 16 #[.int .i64 r] w fun e w' => e = .returned (.int .i64 c) ∧ Below w.heap.size w w' := h ▸ gcb_any r w

set_option maxHeartbeats 6400000 in
theorem none_no (a b : Int) (hno : Par.joinI a b = none) (w : World) :
    Calls Tryd.prog 6 #[.int .i64 a, .int .i64 b] w fun e w' => e = .returned (.bool true) ∧ Below w.heap.size w w' := by
  have hj := Lib.hid (join_not a b hno)
  clear hno
  have hgb := Lib.hid (gcbOf b _ rfl)
  have hma := Lib.hid (markOf a _ rfl)
  have hmb := Lib.hid (markOf b _ rfl)
  have hga := Lib.hid (gcbOf a _ rfl)
  obtain ⟨gb, hgb0⟩ : ∃ x, Prp.gcbI b = x := ⟨_, rfl⟩
  obtain ⟨ga, hga0⟩ : ∃ x, Prp.gcbI a = x := ⟨_, rfl⟩
  obtain ⟨ma, hma0⟩ : ∃ x, Prp.mrkB a = x := ⟨_, rfl⟩
  obtain ⟨mb, hmb0⟩ : ∃ x, Prp.mrkB b = x := ⟨_, rfl⟩
  rw [hgb0] at hgb
  rw [hga0] at hga
  rw [hma0] at hma
  rw [hmb0] at hmb
  clear hgb0 hga0 hma0 hmb0
  by_cases h10 : gb = 10
  · subst h10
    cases ma with
    | true =>
      go_enter Tryd.func6, Tryd.ntmps6
      go_wp2_with fail
      refine (awake5 w).mono ?_
      rintro e w1 ⟨rfl, hb⟩
      replace hb := Lib.hid hb
      go_wp2_with fail
      refine (hj.out _).mono ?_
      rintro e w2 ⟨rfl, hbn⟩
      replace hb := Lib.hid (below_trans5 hb.out hbn)
      clear hbn
      go_wp2_with fail
      refine (hgb.out _).mono ?_
      rintro e w3 ⟨rfl, hbn⟩
      replace hb := Lib.hid (below_trans5 hb.out hbn)
      clear hbn
      go_wp2_with fail
      refine (hma.out _).mono ?_
      rintro e w4 ⟨rfl, hbn⟩
      replace hb := Lib.hid (below_trans5 hb.out hbn)
      clear hbn
      go_wp2_with fail
      go_ret
      exact ⟨rfl, hb.out⟩
    | false =>
      cases mb with
      | true =>
        by_cases g9 : ga = 9
        · subst g9
          go_enter Tryd.func6, Tryd.ntmps6
          go_wp2_with fail
          refine (awake5 w).mono ?_
          rintro e w1 ⟨rfl, hb⟩
          replace hb := Lib.hid hb
          go_wp2_with fail
          refine (hj.out _).mono ?_
          rintro e w2 ⟨rfl, hbn⟩
          replace hb := Lib.hid (below_trans5 hb.out hbn)
          clear hbn
          go_wp2_with fail
          refine (hgb.out _).mono ?_
          rintro e w3 ⟨rfl, hbn⟩
          replace hb := Lib.hid (below_trans5 hb.out hbn)
          clear hbn
          go_wp2_with fail
          refine (hma.out _).mono ?_
          rintro e w4 ⟨rfl, hbn⟩
          replace hb := Lib.hid (below_trans5 hb.out hbn)
          clear hbn
          go_wp2_with fail
          refine (hmb.out _).mono ?_
          rintro e w5 ⟨rfl, hbn⟩
          replace hb := Lib.hid (below_trans5 hb.out hbn)
          clear hbn
          go_wp2_with fail
          refine (hga.out _).mono ?_
          rintro e w6 ⟨rfl, hbn⟩
          replace hb := Lib.hid (below_trans5 hb.out hbn)
          clear hbn
          go_wp2_with fail
          go_ret
          exact ⟨rfl, hb.out⟩
        have g9' : (ga == 9) = false := beq_eq_false_iff_ne.2 g9
        have g9'' : (ga != 9) = true := bne_iff_ne.2 g9
        clear g9
        by_cases g12 : ga = 12
        · subst g12
          go_enter Tryd.func6, Tryd.ntmps6
          go_wp2_with fail
          refine (awake5 w).mono ?_
          rintro e w1 ⟨rfl, hb⟩
          replace hb := Lib.hid hb
          go_wp2_with fail
          refine (hj.out _).mono ?_
          rintro e w2 ⟨rfl, hbn⟩
          replace hb := Lib.hid (below_trans5 hb.out hbn)
          clear hbn
          go_wp2_with fail
          refine (hgb.out _).mono ?_
          rintro e w3 ⟨rfl, hbn⟩
          replace hb := Lib.hid (below_trans5 hb.out hbn)
          clear hbn
          go_wp2_with fail
          refine (hma.out _).mono ?_
          rintro e w4 ⟨rfl, hbn⟩
          replace hb := Lib.hid (below_trans5 hb.out hbn)
          clear hbn
          go_wp2_with fail
          refine (hmb.out _).mono ?_
          rintro e w5 ⟨rfl, hbn⟩
          replace hb := Lib.hid (below_trans5 hb.out hbn)
          clear hbn
          go_wp2_with fail
          refine (hga.out _).mono ?_
          rintro e w6 ⟨rfl, hbn⟩
          replace hb := Lib.hid (below_trans5 hb.out hbn)
          clear hbn
          go_wp2_with fail
          refine (hga.out _).mono ?_
          rintro e w7 ⟨rfl, hbn⟩
          replace hb := Lib.hid (below_trans5 hb.out hbn)
          clear hbn
          go_wp2_with fail
          go_ret
          exact ⟨rfl, hb.out⟩
        have g12' : (ga == 12) = false := beq_eq_false_iff_ne.2 g12
        have g12'' : (ga != 12) = true := bne_iff_ne.2 g12
        clear g12
        go_enter Tryd.func6, Tryd.ntmps6
        go_wp2_with fail
        refine (awake5 w).mono ?_
        rintro e w1 ⟨rfl, hb⟩
        replace hb := Lib.hid hb
        go_wp2_with fail
        refine (hj.out _).mono ?_
        rintro e w2 ⟨rfl, hbn⟩
        replace hb := Lib.hid (below_trans5 hb.out hbn)
        clear hbn
        go_wp2_with fail
        refine (hgb.out _).mono ?_
        rintro e w3 ⟨rfl, hbn⟩
        replace hb := Lib.hid (below_trans5 hb.out hbn)
        clear hbn
        go_wp2_with fail
        refine (hma.out _).mono ?_
        rintro e w4 ⟨rfl, hbn⟩
        replace hb := Lib.hid (below_trans5 hb.out hbn)
        clear hbn
        go_wp2_with fail
        refine (hmb.out _).mono ?_
        rintro e w5 ⟨rfl, hbn⟩
        replace hb := Lib.hid (below_trans5 hb.out hbn)
        clear hbn
        go_wp2_with fail
        refine (hga.out _).mono ?_
        rintro e w6 ⟨rfl, hbn⟩
        replace hb := Lib.hid (below_trans5 hb.out hbn)
        clear hbn
        go_wp2_with fail
        refine (hga.out _).mono ?_
        rintro e w7 ⟨rfl, hbn⟩
        replace hb := Lib.hid (below_trans5 hb.out hbn)
        clear hbn
        go_wp2_with fail
        go_ret
        exact ⟨rfl, hb.out⟩
      | false =>
        by_cases g9 : ga = 9
        · subst g9
          go_enter Tryd.func6, Tryd.ntmps6
          go_wp2_with fail
          refine (awake5 w).mono ?_
          rintro e w1 ⟨rfl, hb⟩
          replace hb := Lib.hid hb
          go_wp2_with fail
          refine (hj.out _).mono ?_
          rintro e w2 ⟨rfl, hbn⟩
          replace hb := Lib.hid (below_trans5 hb.out hbn)
          clear hbn
          go_wp2_with fail
          refine (hgb.out _).mono ?_
          rintro e w3 ⟨rfl, hbn⟩
          replace hb := Lib.hid (below_trans5 hb.out hbn)
          clear hbn
          go_wp2_with fail
          refine (hma.out _).mono ?_
          rintro e w4 ⟨rfl, hbn⟩
          replace hb := Lib.hid (below_trans5 hb.out hbn)
          clear hbn
          go_wp2_with fail
          refine (hmb.out _).mono ?_
          rintro e w5 ⟨rfl, hbn⟩
          replace hb := Lib.hid (below_trans5 hb.out hbn)
          clear hbn
          go_wp2_with fail
          refine (hga.out _).mono ?_
          rintro e w6 ⟨rfl, hbn⟩
          replace hb := Lib.hid (below_trans5 hb.out hbn)
          clear hbn
          go_wp2_with fail
          go_ret
          exact ⟨rfl, hb.out⟩
        have g9' : (ga == 9) = false := beq_eq_false_iff_ne.2 g9
        have g9'' : (ga != 9) = true := bne_iff_ne.2 g9
        clear g9
        by_cases g12 : ga = 12
        · subst g12
          go_enter Tryd.func6, Tryd.ntmps6
          go_wp2_with fail
          refine (awake5 w).mono ?_
          rintro e w1 ⟨rfl, hb⟩
          replace hb := Lib.hid hb
          go_wp2_with fail
          refine (hj.out _).mono ?_
          rintro e w2 ⟨rfl, hbn⟩
          replace hb := Lib.hid (below_trans5 hb.out hbn)
          clear hbn
          go_wp2_with fail
          refine (hgb.out _).mono ?_
          rintro e w3 ⟨rfl, hbn⟩
          replace hb := Lib.hid (below_trans5 hb.out hbn)
          clear hbn
          go_wp2_with fail
          refine (hma.out _).mono ?_
          rintro e w4 ⟨rfl, hbn⟩
          replace hb := Lib.hid (below_trans5 hb.out hbn)
          clear hbn
          go_wp2_with fail
          refine (hmb.out _).mono ?_
          rintro e w5 ⟨rfl, hbn⟩
          replace hb := Lib.hid (below_trans5 hb.out hbn)
          clear hbn
          go_wp2_with fail
          refine (hga.out _).mono ?_
          rintro e w6 ⟨rfl, hbn⟩
          replace hb := Lib.hid (below_trans5 hb.out hbn)
          clear hbn
          go_wp2_with fail
          refine (hga.out _).mono ?_
          rintro e w7 ⟨rfl, hbn⟩
          replace hb := Lib.hid (below_trans5 hb.out hbn)
          clear hbn
          go_wp2_with fail
          go_ret
          exact ⟨rfl, hb.out⟩
        have g12' : (ga == 12) = false := beq_eq_false_iff_ne.2 g12
        have g12'' : (ga != 12) = true := bne_iff_ne.2 g12
        clear g12
        go_enter Tryd.func6, Tryd.ntmps6
        go_wp2_with fail
        refine (awake5 w).mono ?_
        rintro e w1 ⟨rfl, hb⟩
        replace hb := Lib.hid hb
        go_wp2_with fail
        refine (hj.out _).mono ?_
        rintro e w2 ⟨rfl, hbn⟩
        replace hb := Lib.hid (below_trans5 hb.out hbn)
        clear hbn
        go_wp2_with fail
        refine (hgb.out _).mono ?_
        rintro e w3 ⟨rfl, hbn⟩
        replace hb := Lib.hid (below_trans5 hb.out hbn)
        clear hbn
        go_wp2_with fail
        refine (hma.out _).mono ?_
        rintro e w4 ⟨rfl, hbn⟩
        replace hb := Lib.hid (below_trans5 hb.out hbn)
        clear hbn
        go_wp2_with fail
        refine (hmb.out _).mono ?_
        rintro e w5 ⟨rfl, hbn⟩
        replace hb := Lib.hid (below_trans5 hb.out hbn)
        clear hbn
        go_wp2_with fail
        refine (hga.out _).mono ?_
        rintro e w6 ⟨rfl, hbn⟩
        replace hb := Lib.hid (below_trans5 hb.out hbn)
        clear hbn
        go_wp2_with fail
        refine (hga.out _).mono ?_
        rintro e w7 ⟨rfl, hbn⟩
        replace hb := Lib.hid (below_trans5 hb.out hbn)
        clear hbn
        go_wp2_with fail
        go_ret
        exact ⟨rfl, hb.out⟩
  have h10' : (gb == 10) = false := beq_eq_false_iff_ne.2 h10
  by_cases h11 : gb = 11
  · subst h11
    clear h10
    cases ma with
    | true =>
      go_enter Tryd.func6, Tryd.ntmps6
      go_wp2_with fail
      refine (awake5 w).mono ?_
      rintro e w1 ⟨rfl, hb⟩
      replace hb := Lib.hid hb
      go_wp2_with fail
      refine (hj.out _).mono ?_
      rintro e w2 ⟨rfl, hbn⟩
      replace hb := Lib.hid (below_trans5 hb.out hbn)
      clear hbn
      go_wp2_with fail
      refine (hgb.out _).mono ?_
      rintro e w3 ⟨rfl, hbn⟩
      replace hb := Lib.hid (below_trans5 hb.out hbn)
      clear hbn
      go_wp2_with fail
      refine (hgb.out _).mono ?_
      rintro e w4 ⟨rfl, hbn⟩
      replace hb := Lib.hid (below_trans5 hb.out hbn)
      clear hbn
      go_wp2_with fail
      refine (hma.out _).mono ?_
      rintro e w5 ⟨rfl, hbn⟩
      replace hb := Lib.hid (below_trans5 hb.out hbn)
      clear hbn
      go_wp2_with fail
      go_ret
      exact ⟨rfl, hb.out⟩
    | false =>
      cases mb with
      | true =>
        by_cases g9 : ga = 9
        · subst g9
          go_enter Tryd.func6, Tryd.ntmps6
          go_wp2_with fail
          refine (awake5 w).mono ?_
          rintro e w1 ⟨rfl, hb⟩
          replace hb := Lib.hid hb
          go_wp2_with fail
          refine (hj.out _).mono ?_
          rintro e w2 ⟨rfl, hbn⟩
          replace hb := Lib.hid (below_trans5 hb.out hbn)
          clear hbn
          go_wp2_with fail
          refine (hgb.out _).mono ?_
          rintro e w3 ⟨rfl, hbn⟩
          replace hb := Lib.hid (below_trans5 hb.out hbn)
          clear hbn
          go_wp2_with fail
          refine (hgb.out _).mono ?_
          rintro e w4 ⟨rfl, hbn⟩
          replace hb := Lib.hid (below_trans5 hb.out hbn)
          clear hbn
          go_wp2_with fail
          refine (hma.out _).mono ?_
          rintro e w5 ⟨rfl, hbn⟩
          replace hb := Lib.hid (below_trans5 hb.out hbn)
          clear hbn
          go_wp2_with fail
          refine (hmb.out _).mono ?_
          rintro e w6 ⟨rfl, hbn⟩
          replace hb := Lib.hid (below_trans5 hb.out hbn)
          clear hbn
          go_wp2_with fail
          refine (hga.out _).mono ?_
          rintro e w7 ⟨rfl, hbn⟩
          replace hb := Lib.hid (below_trans5 hb.out hbn)
          clear hbn
          go_wp2_with fail
          go_ret
          exact ⟨rfl, hb.out⟩
        have g9' : (ga == 9) = false := beq_eq_false_iff_ne.2 g9
        have g9'' : (ga != 9) = true := bne_iff_ne.2 g9
        clear g9
        by_cases g12 : ga = 12
        · subst g12
          go_enter Tryd.func6, Tryd.ntmps6
          go_wp2_with fail
          refine (awake5 w).mono ?_
          rintro e w1 ⟨rfl, hb⟩
          replace hb := Lib.hid hb
          go_wp2_with fail
          refine (hj.out _).mono ?_
          rintro e w2 ⟨rfl, hbn⟩
          replace hb := Lib.hid (below_trans5 hb.out hbn)
          clear hbn
          go_wp2_with fail
          refine (hgb.out _).mono ?_
          rintro e w3 ⟨rfl, hbn⟩
          replace hb := Lib.hid (below_trans5 hb.out hbn)
          clear hbn
          go_wp2_with fail
          refine (hgb.out _).mono ?_
          rintro e w4 ⟨rfl, hbn⟩
          replace hb := Lib.hid (below_trans5 hb.out hbn)
          clear hbn
          go_wp2_with fail
          refine (hma.out _).mono ?_
          rintro e w5 ⟨rfl, hbn⟩
          replace hb := Lib.hid (below_trans5 hb.out hbn)
          clear hbn
          go_wp2_with fail
          refine (hmb.out _).mono ?_
          rintro e w6 ⟨rfl, hbn⟩
          replace hb := Lib.hid (below_trans5 hb.out hbn)
          clear hbn
          go_wp2_with fail
          refine (hga.out _).mono ?_
          rintro e w7 ⟨rfl, hbn⟩
          replace hb := Lib.hid (below_trans5 hb.out hbn)
          clear hbn
          go_wp2_with fail
          refine (hga.out _).mono ?_
          rintro e w8 ⟨rfl, hbn⟩
          replace hb := Lib.hid (below_trans5 hb.out hbn)
          clear hbn
          go_wp2_with fail
          go_ret
          exact ⟨rfl, hb.out⟩
        have g12' : (ga == 12) = false := beq_eq_false_iff_ne.2 g12
        have g12'' : (ga != 12) = true := bne_iff_ne.2 g12
        clear g12
        go_enter Tryd.func6, Tryd.ntmps6
        go_wp2_with fail
        refine (awake5 w).mono ?_
        rintro e w1 ⟨rfl, hb⟩
        replace hb := Lib.hid hb
        go_wp2_with fail
        refine (hj.out _).mono ?_
        rintro e w2 ⟨rfl, hbn⟩
        replace hb := Lib.hid (below_trans5 hb.out hbn)
        clear hbn
        go_wp2_with fail
        refine (hgb.out _).mono ?_
        rintro e w3 ⟨rfl, hbn⟩
        replace hb := Lib.hid (below_trans5 hb.out hbn)
        clear hbn
        go_wp2_with fail
        refine (hgb.out _).mono ?_
        rintro e w4 ⟨rfl, hbn⟩
        replace hb := Lib.hid (below_trans5 hb.out hbn)
        clear hbn
        go_wp2_with fail
        refine (hma.out _).mono ?_
        rintro e w5 ⟨rfl, hbn⟩
        replace hb := Lib.hid (below_trans5 hb.out hbn)
        clear hbn
        go_wp2_with fail
        refine (hmb.out _).mono ?_
        rintro e w6 ⟨rfl, hbn⟩
        replace hb := Lib.hid (below_trans5 hb.out hbn)
        clear hbn
        go_wp2_with fail
        refine (hga.out _).mono ?_
        rintro e w7 ⟨rfl, hbn⟩
        replace hb := Lib.hid (below_trans5 hb.out hbn)
        clear hbn
        go_wp2_with fail
        refine (hga.out _).mono ?_
        rintro e w8 ⟨rfl, hbn⟩
        replace hb := Lib.hid (below_trans5 hb.out hbn)
        clear hbn
        go_wp2_with fail
        go_ret
        exact ⟨rfl, hb.out⟩
      | false =>
        by_cases g9 : ga = 9
        · subst g9
          go_enter Tryd.func6, Tryd.ntmps6
          go_wp2_with fail
          refine (awake5 w).mono ?_
          rintro e w1 ⟨rfl, hb⟩
          replace hb := Lib.hid hb
          go_wp2_with fail
          refine (hj.out _).mono ?_
          rintro e w2 ⟨rfl, hbn⟩
          replace hb := Lib.hid (below_trans5 hb.out hbn)
          clear hbn
          go_wp2_with fail
          refine (hgb.out _).mono ?_
          rintro e w3 ⟨rfl, hbn⟩
          replace hb := Lib.hid (below_trans5 hb.out hbn)
          clear hbn
          go_wp2_with fail
          refine (hgb.out _).mono ?_
          rintro e w4 ⟨rfl, hbn⟩
          replace hb := Lib.hid (below_trans5 hb.out hbn)
          clear hbn
          go_wp2_with fail
          refine (hma.out _).mono ?_
          rintro e w5 ⟨rfl, hbn⟩
          replace hb := Lib.hid (below_trans5 hb.out hbn)
          clear hbn
          go_wp2_with fail
          refine (hmb.out _).mono ?_
          rintro e w6 ⟨rfl, hbn⟩
          replace hb := Lib.hid (below_trans5 hb.out hbn)
          clear hbn
          go_wp2_with fail
          refine (hga.out _).mono ?_
          rintro e w7 ⟨rfl, hbn⟩
          replace hb := Lib.hid (below_trans5 hb.out hbn)
          clear hbn
          go_wp2_with fail
          go_ret
          exact ⟨rfl, hb.out⟩
        have g9' : (ga == 9) = false := beq_eq_false_iff_ne.2 g9
        have g9'' : (ga != 9) = true := bne_iff_ne.2 g9
        clear g9
        by_cases g12 : ga = 12
        · subst g12
          go_enter Tryd.func6, Tryd.ntmps6
          go_wp2_with fail
          refine (awake5 w).mono ?_
          rintro e w1 ⟨rfl, hb⟩
          replace hb := Lib.hid hb
          go_wp2_with fail
          refine (hj.out _).mono ?_
          rintro e w2 ⟨rfl, hbn⟩
          replace hb := Lib.hid (below_trans5 hb.out hbn)
          clear hbn
          go_wp2_with fail
          refine (hgb.out _).mono ?_
          rintro e w3 ⟨rfl, hbn⟩
          replace hb := Lib.hid (below_trans5 hb.out hbn)
          clear hbn
          go_wp2_with fail
          refine (hgb.out _).mono ?_
          rintro e w4 ⟨rfl, hbn⟩
          replace hb := Lib.hid (below_trans5 hb.out hbn)
          clear hbn
          go_wp2_with fail
          refine (hma.out _).mono ?_
          rintro e w5 ⟨rfl, hbn⟩
          replace hb := Lib.hid (below_trans5 hb.out hbn)
          clear hbn
          go_wp2_with fail
          refine (hmb.out _).mono ?_
          rintro e w6 ⟨rfl, hbn⟩
          replace hb := Lib.hid (below_trans5 hb.out hbn)
          clear hbn
          go_wp2_with fail
          refine (hga.out _).mono ?_
          rintro e w7 ⟨rfl, hbn⟩
          replace hb := Lib.hid (below_trans5 hb.out hbn)
          clear hbn
          go_wp2_with fail
          refine (hga.out _).mono ?_
          rintro e w8 ⟨rfl, hbn⟩
          replace hb := Lib.hid (below_trans5 hb.out hbn)
          clear hbn
          go_wp2_with fail
          go_ret
          exact ⟨rfl, hb.out⟩
        have g12' : (ga == 12) = false := beq_eq_false_iff_ne.2 g12
        have g12'' : (ga != 12) = true := bne_iff_ne.2 g12
        clear g12
        go_enter Tryd.func6, Tryd.ntmps6
        go_wp2_with fail
        refine (awake5 w).mono ?_
        rintro e w1 ⟨rfl, hb⟩
        replace hb := Lib.hid hb
        go_wp2_with fail
        refine (hj.out _).mono ?_
        rintro e w2 ⟨rfl, hbn⟩
        replace hb := Lib.hid (below_trans5 hb.out hbn)
        clear hbn
        go_wp2_with fail
        refine (hgb.out _).mono ?_
        rintro e w3 ⟨rfl, hbn⟩
        replace hb := Lib.hid (below_trans5 hb.out hbn)
        clear hbn
        go_wp2_with fail
        refine (hgb.out _).mono ?_
        rintro e w4 ⟨rfl, hbn⟩
        replace hb := Lib.hid (below_trans5 hb.out hbn)
        clear hbn
        go_wp2_with fail
        refine (hma.out _).mono ?_
        rintro e w5 ⟨rfl, hbn⟩
        replace hb := Lib.hid (below_trans5 hb.out hbn)
        clear hbn
        go_wp2_with fail
        refine (hmb.out _).mono ?_
        rintro e w6 ⟨rfl, hbn⟩
        replace hb := Lib.hid (below_trans5 hb.out hbn)
        clear hbn
        go_wp2_with fail
        refine (hga.out _).mono ?_
        rintro e w7 ⟨rfl, hbn⟩
        replace hb := Lib.hid (below_trans5 hb.out hbn)
        clear hbn
        go_wp2_with fail
        refine (hga.out _).mono ?_
        rintro e w8 ⟨rfl, hbn⟩
        replace hb := Lib.hid (below_trans5 hb.out hbn)
        clear hbn
        go_wp2_with fail
        go_ret
        exact ⟨rfl, hb.out⟩
  have h11' : (gb == 11) = false := beq_eq_false_iff_ne.2 h11
  clear h10 h11
  cases ma with
  | true =>
    go_enter Tryd.func6, Tryd.ntmps6
    go_wp2_with fail
    refine (awake5 w).mono ?_
    rintro e w1 ⟨rfl, hb⟩
    replace hb := Lib.hid hb
    go_wp2_with fail
    refine (hj.out _).mono ?_
    rintro e w2 ⟨rfl, hbn⟩
    replace hb := Lib.hid (below_trans5 hb.out hbn)
    clear hbn
    go_wp2_with fail
    refine (hgb.out _).mono ?_
    rintro e w3 ⟨rfl, hbn⟩
    replace hb := Lib.hid (below_trans5 hb.out hbn)
    clear hbn
    go_wp2_with fail
    refine (hgb.out _).mono ?_
    rintro e w4 ⟨rfl, hbn⟩
    replace hb := Lib.hid (below_trans5 hb.out hbn)
    clear hbn
    go_wp2_with fail
    refine (hma.out _).mono ?_
    rintro e w5 ⟨rfl, hbn⟩
    replace hb := Lib.hid (below_trans5 hb.out hbn)
    clear hbn
    go_wp2_with fail
    go_ret
    exact ⟨rfl, hb.out⟩
  | false =>
    cases mb with
    | true =>
      go_enter Tryd.func6, Tryd.ntmps6
      go_wp2_with fail
      refine (awake5 w).mono ?_
      rintro e w1 ⟨rfl, hb⟩
      replace hb := Lib.hid hb
      go_wp2_with fail
      refine (hj.out _).mono ?_
      rintro e w2 ⟨rfl, hbn⟩
      replace hb := Lib.hid (below_trans5 hb.out hbn)
      clear hbn
      go_wp2_with fail
      refine (hgb.out _).mono ?_
      rintro e w3 ⟨rfl, hbn⟩
      replace hb := Lib.hid (below_trans5 hb.out hbn)
      clear hbn
      go_wp2_with fail
      refine (hgb.out _).mono ?_
      rintro e w4 ⟨rfl, hbn⟩
      replace hb := Lib.hid (below_trans5 hb.out hbn)
      clear hbn
      go_wp2_with fail
      refine (hma.out _).mono ?_
      rintro e w5 ⟨rfl, hbn⟩
      replace hb := Lib.hid (below_trans5 hb.out hbn)
      clear hbn
      go_wp2_with fail
      refine (hmb.out _).mono ?_
      rintro e w6 ⟨rfl, hbn⟩
      replace hb := Lib.hid (below_trans5 hb.out hbn)
      clear hbn
      go_wp2_with fail
      go_ret
      exact ⟨rfl, hb.out⟩
    | false =>
      go_enter Tryd.func6, Tryd.ntmps6
      go_wp2_with fail
      refine (awake5 w).mono ?_
      rintro e w1 ⟨rfl, hb⟩
      replace hb := Lib.hid hb
      go_wp2_with fail
      refine (hj.out _).mono ?_
      rintro e w2 ⟨rfl, hbn⟩
      replace hb := Lib.hid (below_trans5 hb.out hbn)
      clear hbn
      go_wp2_with fail
      refine (hgb.out _).mono ?_
      rintro e w3 ⟨rfl, hbn⟩
      replace hb := Lib.hid (below_trans5 hb.out hbn)
      clear hbn
      go_wp2_with fail
      refine (hgb.out _).mono ?_
      rintro e w4 ⟨rfl, hbn⟩
      replace hb := Lib.hid (below_trans5 hb.out hbn)
      clear hbn
      go_wp2_with fail
      refine (hma.out _).mono ?_
      rintro e w5 ⟨rfl, hbn⟩
      replace hb := Lib.hid (below_trans5 hb.out hbn)
      clear hbn
      go_wp2_with fail
      refine (hmb.out _).mono ?_
      rintro e w6 ⟨rfl, hbn⟩
      replace hb := Lib.hid (below_trans5 hb.out hbn)
      clear hbn
      go_wp2_with fail
      go_ret
      exact ⟨rfl, hb.out⟩

set_option maxHeartbeats 6400000 in
theorem none_yes (a b x : Int) (hyes : Par.joinI a b = some x) (w : World) :
    Calls Tryd.prog 6 #[.int .i64 a, .int .i64 b] w fun e w' => e = .returned (.bool true) ∧ Below w.heap.size w w' := by
  have hj := Lib.hid (join_yes a b x hyes)
  have hp := Par.join_parts hyes
  have hx := (Par.join_small hyes).1
  have hmk := @Par.mrk_gcb b
  clear hyes
  have hgb := Lib.hid (gcbOf b _ rfl)
  have hma := Lib.hid (markOf a _ rfl)
  have hmb := Lib.hid (markOf b _ rfl)
  have hga := Lib.hid (gcbOf a _ rfl)
  obtain ⟨gb, hgb0⟩ : ∃ x, Prp.gcbI b = x := ⟨_, rfl⟩
  obtain ⟨ga, hga0⟩ : ∃ x, Prp.gcbI a = x := ⟨_, rfl⟩
  obtain ⟨ma, hma0⟩ : ∃ x, Prp.mrkB a = x := ⟨_, rfl⟩
  obtain ⟨mb, hmb0⟩ : ∃ x, Prp.mrkB b = x := ⟨_, rfl⟩
  rw [hgb0] at hgb hp hmk
  rw [hga0] at hga hp
  rw [hma0] at hma hp
  rw [hmb0] at hmb hp hmk
  clear hgb0 hga0 hma0 hmb0
  by_cases h10 : gb = 10
  · subst h10
    obtain rfl : ma = false := hp.1
    cases mb with
    | true =>
      have hg2 : ga = 9 ∨ ga = 12 := by
        rcases hp.2 with h | ⟨_, h⟩ | ⟨_, h⟩
        · exact absurd (hmk h) (by omega)
        · exact .inl h
        · exact .inr h
      clear hp
      clear hmk
      rcases hg2 with rfl | rfl
      ·
        go_enter Tryd.func6, Tryd.ntmps6
        go_wp2_with fail
        refine (awake5 w).mono ?_
        rintro e w1 ⟨rfl, hb⟩
        replace hb := Lib.hid hb
        go_wp2_with fail
        refine (hj.out _).mono ?_
        rintro e w2 ⟨rfl, hbn⟩
        replace hb := Lib.hid (below_trans5 hb.out hbn)
        clear hbn
        go_wp2_with fail
        refine (hgb.out _).mono ?_
        rintro e w3 ⟨rfl, hbn⟩
        replace hb := Lib.hid (below_trans5 hb.out hbn)
        clear hbn
        go_wp2_with fail
        refine (hma.out _).mono ?_
        rintro e w4 ⟨rfl, hbn⟩
        replace hb := Lib.hid (below_trans5 hb.out hbn)
        clear hbn
        go_wp2_with fail
        refine (hmb.out _).mono ?_
        rintro e w5 ⟨rfl, hbn⟩
        replace hb := Lib.hid (below_trans5 hb.out hbn)
        clear hbn
        go_wp2_with fail
        refine (hga.out _).mono ?_
        rintro e w6 ⟨rfl, hbn⟩
        replace hb := Lib.hid (below_trans5 hb.out hbn)
        clear hbn
        go_wp2_with fail
        go_ret
        exact ⟨rfl, hb.out⟩
      ·
        go_enter Tryd.func6, Tryd.ntmps6
        go_wp2_with fail
        refine (awake5 w).mono ?_
        rintro e w1 ⟨rfl, hb⟩
        replace hb := Lib.hid hb
        go_wp2_with fail
        refine (hj.out _).mono ?_
        rintro e w2 ⟨rfl, hbn⟩
        replace hb := Lib.hid (below_trans5 hb.out hbn)
        clear hbn
        go_wp2_with fail
        refine (hgb.out _).mono ?_
        rintro e w3 ⟨rfl, hbn⟩
        replace hb := Lib.hid (below_trans5 hb.out hbn)
        clear hbn
        go_wp2_with fail
        refine (hma.out _).mono ?_
        rintro e w4 ⟨rfl, hbn⟩
        replace hb := Lib.hid (below_trans5 hb.out hbn)
        clear hbn
        go_wp2_with fail
        refine (hmb.out _).mono ?_
        rintro e w5 ⟨rfl, hbn⟩
        replace hb := Lib.hid (below_trans5 hb.out hbn)
        clear hbn
        go_wp2_with fail
        refine (hga.out _).mono ?_
        rintro e w6 ⟨rfl, hbn⟩
        replace hb := Lib.hid (below_trans5 hb.out hbn)
        clear hbn
        go_wp2_with fail
        refine (hga.out _).mono ?_
        rintro e w7 ⟨rfl, hbn⟩
        replace hb := Lib.hid (below_trans5 hb.out hbn)
        clear hbn
        go_wp2_with fail
        go_ret
        exact ⟨rfl, hb.out⟩
    | false =>
      have hg2 : ga = 9 ∨ ga = 12 := by
        rcases hp.2 with h | ⟨_, h⟩ | ⟨_, h⟩
        · exact absurd (hmk h) (by omega)
        · exact .inl h
        · exact .inr h
      clear hp
      clear hmk
      rcases hg2 with rfl | rfl
      ·
        go_enter Tryd.func6, Tryd.ntmps6
        go_wp2_with fail
        refine (awake5 w).mono ?_
        rintro e w1 ⟨rfl, hb⟩
        replace hb := Lib.hid hb
        go_wp2_with fail
        refine (hj.out _).mono ?_
        rintro e w2 ⟨rfl, hbn⟩
        replace hb := Lib.hid (below_trans5 hb.out hbn)
        clear hbn
        go_wp2_with fail
        refine (hgb.out _).mono ?_
        rintro e w3 ⟨rfl, hbn⟩
        replace hb := Lib.hid (below_trans5 hb.out hbn)
        clear hbn
        go_wp2_with fail
        refine (hma.out _).mono ?_
        rintro e w4 ⟨rfl, hbn⟩
        replace hb := Lib.hid (below_trans5 hb.out hbn)
        clear hbn
        go_wp2_with fail
        refine (hmb.out _).mono ?_
        rintro e w5 ⟨rfl, hbn⟩
        replace hb := Lib.hid (below_trans5 hb.out hbn)
        clear hbn
        go_wp2_with fail
        refine (hga.out _).mono ?_
        rintro e w6 ⟨rfl, hbn⟩
        replace hb := Lib.hid (below_trans5 hb.out hbn)
        clear hbn
        go_wp2_with fail
        go_ret
        exact ⟨rfl, hb.out⟩
      ·
        go_enter Tryd.func6, Tryd.ntmps6
        go_wp2_with fail
        refine (awake5 w).mono ?_
        rintro e w1 ⟨rfl, hb⟩
        replace hb := Lib.hid hb
        go_wp2_with fail
        refine (hj.out _).mono ?_
        rintro e w2 ⟨rfl, hbn⟩
        replace hb := Lib.hid (below_trans5 hb.out hbn)
        clear hbn
        go_wp2_with fail
        refine (hgb.out _).mono ?_
        rintro e w3 ⟨rfl, hbn⟩
        replace hb := Lib.hid (below_trans5 hb.out hbn)
        clear hbn
        go_wp2_with fail
        refine (hma.out _).mono ?_
        rintro e w4 ⟨rfl, hbn⟩
        replace hb := Lib.hid (below_trans5 hb.out hbn)
        clear hbn
        go_wp2_with fail
        refine (hmb.out _).mono ?_
        rintro e w5 ⟨rfl, hbn⟩
        replace hb := Lib.hid (below_trans5 hb.out hbn)
        clear hbn
        go_wp2_with fail
        refine (hga.out _).mono ?_
        rintro e w6 ⟨rfl, hbn⟩
        replace hb := Lib.hid (below_trans5 hb.out hbn)
        clear hbn
        go_wp2_with fail
        refine (hga.out _).mono ?_
        rintro e w7 ⟨rfl, hbn⟩
        replace hb := Lib.hid (below_trans5 hb.out hbn)
        clear hbn
        go_wp2_with fail
        go_ret
        exact ⟨rfl, hb.out⟩
  have h10' : (gb == 10) = false := beq_eq_false_iff_ne.2 h10
  by_cases h11 : gb = 11
  · subst h11
    clear h10
    obtain rfl : ma = false := hp.1
    cases mb with
    | true =>
      have hg2 : ga = 9 ∨ ga = 12 := by
        rcases hp.2 with h | ⟨_, h⟩ | ⟨_, h⟩
        · exact absurd (hmk h) (by omega)
        · exact .inl h
        · exact .inr h
      clear hp
      clear hmk
      rcases hg2 with rfl | rfl
      ·
        go_enter Tryd.func6, Tryd.ntmps6
        go_wp2_with fail
        refine (awake5 w).mono ?_
        rintro e w1 ⟨rfl, hb⟩
        replace hb := Lib.hid hb
        go_wp2_with fail
        refine (hj.out _).mono ?_
        rintro e w2 ⟨rfl, hbn⟩
        replace hb := Lib.hid (below_trans5 hb.out hbn)
        clear hbn
        go_wp2_with fail
        refine (hgb.out _).mono ?_
        rintro e w3 ⟨rfl, hbn⟩
        replace hb := Lib.hid (below_trans5 hb.out hbn)
        clear hbn
        go_wp2_with fail
        refine (hgb.out _).mono ?_
        rintro e w4 ⟨rfl, hbn⟩
        replace hb := Lib.hid (below_trans5 hb.out hbn)
        clear hbn
        go_wp2_with fail
        refine (hma.out _).mono ?_
        rintro e w5 ⟨rfl, hbn⟩
        replace hb := Lib.hid (below_trans5 hb.out hbn)
        clear hbn
        go_wp2_with fail
        refine (hmb.out _).mono ?_
        rintro e w6 ⟨rfl, hbn⟩
        replace hb := Lib.hid (below_trans5 hb.out hbn)
        clear hbn
        go_wp2_with fail
        refine (hga.out _).mono ?_
        rintro e w7 ⟨rfl, hbn⟩
        replace hb := Lib.hid (below_trans5 hb.out hbn)
        clear hbn
        go_wp2_with fail
        go_ret
        exact ⟨rfl, hb.out⟩
      ·
        go_enter Tryd.func6, Tryd.ntmps6
        go_wp2_with fail
        refine (awake5 w).mono ?_
        rintro e w1 ⟨rfl, hb⟩
        replace hb := Lib.hid hb
        go_wp2_with fail
        refine (hj.out _).mono ?_
        rintro e w2 ⟨rfl, hbn⟩
        replace hb := Lib.hid (below_trans5 hb.out hbn)
        clear hbn
        go_wp2_with fail
        refine (hgb.out _).mono ?_
        rintro e w3 ⟨rfl, hbn⟩
        replace hb := Lib.hid (below_trans5 hb.out hbn)
        clear hbn
        go_wp2_with fail
        refine (hgb.out _).mono ?_
        rintro e w4 ⟨rfl, hbn⟩
        replace hb := Lib.hid (below_trans5 hb.out hbn)
        clear hbn
        go_wp2_with fail
        refine (hma.out _).mono ?_
        rintro e w5 ⟨rfl, hbn⟩
        replace hb := Lib.hid (below_trans5 hb.out hbn)
        clear hbn
        go_wp2_with fail
        refine (hmb.out _).mono ?_
        rintro e w6 ⟨rfl, hbn⟩
        replace hb := Lib.hid (below_trans5 hb.out hbn)
        clear hbn
        go_wp2_with fail
        refine (hga.out _).mono ?_
        rintro e w7 ⟨rfl, hbn⟩
        replace hb := Lib.hid (below_trans5 hb.out hbn)
        clear hbn
        go_wp2_with fail
        refine (hga.out _).mono ?_
        rintro e w8 ⟨rfl, hbn⟩
        replace hb := Lib.hid (below_trans5 hb.out hbn)
        clear hbn
        go_wp2_with fail
        go_ret
        exact ⟨rfl, hb.out⟩
    | false =>
      have hg2 : ga = 9 ∨ ga = 12 := by
        rcases hp.2 with h | ⟨_, h⟩ | ⟨_, h⟩
        · exact absurd (hmk h) (by omega)
        · exact .inl h
        · exact .inr h
      clear hp
      clear hmk
      rcases hg2 with rfl | rfl
      ·
        go_enter Tryd.func6, Tryd.ntmps6
        go_wp2_with fail
        refine (awake5 w).mono ?_
        rintro e w1 ⟨rfl, hb⟩
        replace hb := Lib.hid hb
        go_wp2_with fail
        refine (hj.out _).mono ?_
        rintro e w2 ⟨rfl, hbn⟩
        replace hb := Lib.hid (below_trans5 hb.out hbn)
        clear hbn
        go_wp2_with fail
        refine (hgb.out _).mono ?_
        rintro e w3 ⟨rfl, hbn⟩
        replace hb := Lib.hid (below_trans5 hb.out hbn)
        clear hbn
        go_wp2_with fail
        refine (hgb.out _).mono ?_
        rintro e w4 ⟨rfl, hbn⟩
        replace hb := Lib.hid (below_trans5 hb.out hbn)
        clear hbn
        go_wp2_with fail
        refine (hma.out _).mono ?_
        rintro e w5 ⟨rfl, hbn⟩
        replace hb := Lib.hid (below_trans5 hb.out hbn)
        clear hbn
        go_wp2_with fail
        refine (hmb.out _).mono ?_
        rintro e w6 ⟨rfl, hbn⟩
        replace hb := Lib.hid (below_trans5 hb.out hbn)
        clear hbn
        go_wp2_with fail
        refine (hga.out _).mono ?_
        rintro e w7 ⟨rfl, hbn⟩
        replace hb := Lib.hid (below_trans5 hb.out hbn)
        clear hbn
        go_wp2_with fail
        go_ret
        exact ⟨rfl, hb.out⟩
      ·
        go_enter Tryd.func6, Tryd.ntmps6
        go_wp2_with fail
        refine (awake5 w).mono ?_
        rintro e w1 ⟨rfl, hb⟩
        replace hb := Lib.hid hb
        go_wp2_with fail
        refine (hj.out _).mono ?_
        rintro e w2 ⟨rfl, hbn⟩
        replace hb := Lib.hid (below_trans5 hb.out hbn)
        clear hbn
        go_wp2_with fail
        refine (hgb.out _).mono ?_
        rintro e w3 ⟨rfl, hbn⟩
        replace hb := Lib.hid (below_trans5 hb.out hbn)
        clear hbn
        go_wp2_with fail
        refine (hgb.out _).mono ?_
        rintro e w4 ⟨rfl, hbn⟩
        replace hb := Lib.hid (below_trans5 hb.out hbn)
        clear hbn
        go_wp2_with fail
        refine (hma.out _).mono ?_
        rintro e w5 ⟨rfl, hbn⟩
        replace hb := Lib.hid (below_trans5 hb.out hbn)
        clear hbn
        go_wp2_with fail
        refine (hmb.out _).mono ?_
        rintro e w6 ⟨rfl, hbn⟩
        replace hb := Lib.hid (below_trans5 hb.out hbn)
        clear hbn
        go_wp2_with fail
        refine (hga.out _).mono ?_
        rintro e w7 ⟨rfl, hbn⟩
        replace hb := Lib.hid (below_trans5 hb.out hbn)
        clear hbn
        go_wp2_with fail
        refine (hga.out _).mono ?_
        rintro e w8 ⟨rfl, hbn⟩
        replace hb := Lib.hid (below_trans5 hb.out hbn)
        clear hbn
        go_wp2_with fail
        go_ret
        exact ⟨rfl, hb.out⟩
  have h11' : (gb == 11) = false := beq_eq_false_iff_ne.2 h11
  clear hmk
  obtain rfl : ma = false := hp.1
  obtain rfl : mb = true := by rcases hp.2 with h | ⟨h, _⟩ | ⟨h, _⟩ <;> first | exact h | omega
  clear hp
  go_enter Tryd.func6, Tryd.ntmps6
  go_wp2_with fail
  refine (awake5 w).mono ?_
  rintro e w1 ⟨rfl, hb⟩
  replace hb := Lib.hid hb
  go_wp2_with fail
  refine (hj.out _).mono ?_
  rintro e w2 ⟨rfl, hbn⟩
  replace hb := Lib.hid (below_trans5 hb.out hbn)
  clear hbn
  go_wp2_with fail
  refine (hgb.out _).mono ?_
  rintro e w3 ⟨rfl, hbn⟩
  replace hb := Lib.hid (below_trans5 hb.out hbn)
  clear hbn
  go_wp2_with fail
  refine (hgb.out _).mono ?_
  rintro e w4 ⟨rfl, hbn⟩
  replace hb := Lib.hid (below_trans5 hb.out hbn)
  clear hbn
  go_wp2_with fail
  refine (hma.out _).mono ?_
  rintro e w5 ⟨rfl, hbn⟩
  replace hb := Lib.hid (below_trans5 hb.out hbn)
  clear hbn
  go_wp2_with fail
  refine (hmb.out _).mono ?_
  rintro e w6 ⟨rfl, hbn⟩
  replace hb := Lib.hid (below_trans5 hb.out hbn)
  clear hbn
  go_wp2_with fail
  go_ret
  exact ⟨rfl, hb.out⟩

theorem pairNone_walk (a b : Int) (w : World) (_ : -9223372036854775808 ≤ a ∧ a ≤ 9223372036854775807) (_ : -9223372036854775808 ≤ b ∧ b ≤ 9223372036854775807) :
    Calls Tryd.prog 6 #[.int .i64 a, .int .i64 b] w fun e w' => e = .returned (.bool true) ∧ Below w.heap.size w w' := by
  cases h : Par.joinI a b with
  | none => exact none_no a b h w
  | some x => exact none_yes a b x h w

end Go.Proofs.YtgahfbcdnbhikaaDoor
