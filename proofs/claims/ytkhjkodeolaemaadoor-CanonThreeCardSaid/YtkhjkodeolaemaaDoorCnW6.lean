/- Layer 7: the walk of CanonThree. -/
import Derived.Test.YtkhjkodeolaemaaDoorCnW0
import Derived.Test.YtkhjkodeolaemaaDoorCnN
import Derived.Test.YtkhjkodeolaemaaDoorPrO
import Derived.Test.YtkhjkodeolaemaaDoorPaS
import Derived.Deep.LoopGhost
import Derived.Deep.DeepCutAuto
namespace Go.Proofs.YtkhjkodeolaemaaDoor
set_option linter.unusedSimpArgs false
set_option linter.unusedVariables false
open Go.RowKit Go.Lib


set_option maxHeartbeats 6400000 in
theorem canonThree_walk (hO : OrderC) (hS : SortedC) (hM : MarksC) (hC : ComposeC) (hY : JoinYes) (hN : JoinNot) (a m n : Int) (w : World) (ha : -9223372036854775808 ≤ a ∧ a ≤ 9223372036854775807) (hm : -9223372036854775808 ≤ m ∧ m ≤ 9223372036854775807) (hn : -9223372036854775808 ≤ n ∧ n ≤ 9223372036854775807) :
    Calls Tryd.prog 7 #[.int .i64 a, .int .i64 m, .int .i64 n] w fun e w' => e = .returned (.bool true) ∧ Below w.heap.size w w' := by
  have hawake := Lib.hid (awake7 hO hS hM hC)
  obtain ⟨i0, hi, hz0, hz1, hz2⟩ := info_parts info_i
  have hma := Lib.hid (mark_of a _ rfl)
  have hmm := Lib.hid (mark_of m _ rfl)
  have hmn := Lib.hid (mark_of n _ rfl)
  have hkm := Lib.hid (ccc_of m _ rfl)
  have hkn := Lib.hid (ccc_of n _ rfl)
  have hw3 : WfI [a, m, n] := wfI_cons ha (wfI_cons hm (wfI_cons hn wfI_nil))
  have h3 := fun x y z => @Can.three a m n x y z
  clear ha hm hn hO hS hM
  obtain ⟨qa, hqa⟩ : ∃ q, Prp.mrkB a = q := ⟨_, rfl⟩
  obtain ⟨qm, hqm⟩ : ∃ q, Prp.mrkB m = q := ⟨_, rfl⟩
  obtain ⟨qn, hqn⟩ : ∃ q, Prp.mrkB n = q := ⟨_, rfl⟩
  obtain ⟨km, hkm0⟩ : ∃ q, Prp.cccI m = q := ⟨_, rfl⟩
  obtain ⟨kn, hkn0⟩ : ∃ q, Prp.cccI n = q := ⟨_, rfl⟩
  rw [hqa] at hma h3
  rw [hqm] at hmm h3
  rw [hqn] at hmn h3
  rw [hkm0] at hkm h3
  rw [hkn0] at hkn h3
  clear hqa hqm hqn hkm0 hkn0
  have hway : (qa = true ∨ qm = false ∨ qn = false) ∨ (qa = false ∧ qm = true ∧ qn = true) := by
    cases qa <;> cases qm <;> cases qn <;> simp
  rcases hway with hway | ⟨rfl, rfl, rfl⟩
  · clear h3
    cases qa with
    | true =>
      go_enter Tryd.func7, Tryd.ntmps7
      go_wp2_with fail
      refine (hawake.out w).mono ?_
      rintro e w1 ⟨rfl, hb1⟩
      replace hb1 := Lib.hid hb1
      go_wp2_with fail
      refine (hma.out _).mono ?_
      rintro e w2 ⟨rfl, hb2⟩
      replace hb2 := Lib.hid (below_on hb1.out hb2)
      go_wp2_with fail
      go_ret
      exact ⟨rfl, hb2.out⟩
    | false =>
      cases qm with
      | false =>
        go_enter Tryd.func7, Tryd.ntmps7
        go_wp2_with fail
        refine (hawake.out w).mono ?_
        rintro e w1 ⟨rfl, hb1⟩
        replace hb1 := Lib.hid hb1
        go_wp2_with fail
        refine (hma.out _).mono ?_
        rintro e w2 ⟨rfl, hb2⟩
        replace hb2 := Lib.hid (below_on hb1.out hb2)
        go_wp2_with fail
        refine (hmm.out _).mono ?_
        rintro e w3 ⟨rfl, hb3⟩
        replace hb3 := Lib.hid (below_on hb2.out hb3)
        go_wp2_with fail
        go_ret
        exact ⟨rfl, hb3.out⟩
      | true =>
        cases qn with
        | true => simp at hway
        | false =>
          clear hway
          go_enter Tryd.func7, Tryd.ntmps7
          go_wp2_with fail
          refine (hawake.out w).mono ?_
          rintro e w1 ⟨rfl, hb1⟩
          replace hb1 := Lib.hid hb1
          go_wp2_with fail
          refine (hma.out _).mono ?_
          rintro e w2 ⟨rfl, hb2⟩
          replace hb2 := Lib.hid (below_on hb1.out hb2)
          go_wp2_with fail
          refine (hmm.out _).mono ?_
          rintro e w3 ⟨rfl, hb3⟩
          replace hb3 := Lib.hid (below_on hb2.out hb3)
          go_wp2_with fail
          refine (hmn.out _).mono ?_
          rintro e w4 ⟨rfl, hb4⟩
          replace hb4 := Lib.hid (below_on hb3.out hb4)
          go_wp2_with fail
          go_ret
          exact ⟨rfl, hb4.out⟩
  · replace h3 := h3 rfl rfl rfl
    cases hj : Par.joinI a m with
    | some x =>
      rw [hj] at h3
      have hj1 := Lib.hid (hY a m x hj)
      cases hj' : Par.joinI x n with
      | some y =>
        have hj2 := Lib.hid (hY x n y hj')
        have hcomp := Lib.hid (show Can.composeI [a, m, n] = y :: [] by rw [h3]; simp [hj'])
        clear h3 hj hj' hY hN
        go_enter Tryd.func7, Tryd.ntmps7
        go_wp2_with fail
        refine (hawake.out w).mono ?_
        rintro e w1 ⟨rfl, hb1⟩
        replace hb1 := Lib.hid hb1
        go_wp2_with fail
        refine (hma.out _).mono ?_
        rintro e w2 ⟨rfl, hb2⟩
        replace hb2 := Lib.hid (below_on hb1.out hb2)
        go_wp2_with fail
        refine (hmm.out _).mono ?_
        rintro e w3 ⟨rfl, hb3⟩
        replace hb3 := Lib.hid (below_on hb2.out hb3)
        go_wp2_with fail
        refine (hmn.out _).mono ?_
        rintro e w4 ⟨rfl, hb4⟩
        replace hb4 := Lib.hid (below_on hb3.out hb4)
        go_wp2_with fail
        refine (hj1.out _).mono ?_
        rintro e w5 ⟨rfl, hb5⟩
        replace hb5 := Lib.hid (below_on hb4.out hb5)
        go_wp2_with fail
        refine (hj2.out _).mono ?_
        rintro e w6 ⟨rfl, hb6⟩
        replace hb6 := Lib.hid (below_on hb5.out hb6)
        have hl3 := Lib.hid (ri_of_own (ownI_lit w.heap.size w6 [a, m, n] #[.int .i64 a, .int .i64 m, .int .i64 n] w6.heap.size 3 rfl hb6.out.size rfl rfl (by unfold maxLen; omega)))
        have bl3 := Lib.hid (hb6.out.alloc hb6.out.size (.cells #[.int .i64 a, .int .i64 m, .int .i64 n] 3))
        go_upto_region 15 with (fail)
        refine (compose_of hC (m := y :: []) hcomp.out (by simp) hl3.out hw3).mono ?_
        rintro e w9 ⟨vc, rfl, rc, hb9⟩
        obtain ⟨pc, cc, rfl⟩ := ri_form rc
        obtain ⟨bc, oc, rfl, hbc, hcc⟩ := ri_at rc (by simp)
        have c0 : w9.cell? ⟨bc, oc, none⟩ = some (.int .i64 y) := hcc 0 (by simp)
        have b9 := Lib.hid (below_on bl3.out hb9)
        clear hcc rc hb9 hl3 bl3
        go_wp2_with fail
        refine wp_loop_rounds 1 ?_
        rw [rounds_succ]
        go_wp2_with fail
        go_ret
        first | exact ⟨rfl, b9.out⟩ | exact ⟨rfl, below_on b9.out (drewN_below w9 _)⟩ | exact ⟨rfl, by rw [World.drewN_drewN]; exact below_on b9.out (drewN_below w9 _)⟩
      | none =>
        have hj2 := Lib.hid (hN x n hj')
        have hcomp := Lib.hid (show Can.composeI [a, m, n] = x :: [n] by rw [h3]; simp [hj'])
        clear h3 hj hj' hY hN
        go_enter Tryd.func7, Tryd.ntmps7
        go_wp2_with fail
        refine (hawake.out w).mono ?_
        rintro e w1 ⟨rfl, hb1⟩
        replace hb1 := Lib.hid hb1
        go_wp2_with fail
        refine (hma.out _).mono ?_
        rintro e w2 ⟨rfl, hb2⟩
        replace hb2 := Lib.hid (below_on hb1.out hb2)
        go_wp2_with fail
        refine (hmm.out _).mono ?_
        rintro e w3 ⟨rfl, hb3⟩
        replace hb3 := Lib.hid (below_on hb2.out hb3)
        go_wp2_with fail
        refine (hmn.out _).mono ?_
        rintro e w4 ⟨rfl, hb4⟩
        replace hb4 := Lib.hid (below_on hb3.out hb4)
        go_wp2_with fail
        refine (hj1.out _).mono ?_
        rintro e w5 ⟨rfl, hb5⟩
        replace hb5 := Lib.hid (below_on hb4.out hb5)
        go_wp2_with fail
        refine (hj2.out _).mono ?_
        rintro e w6 ⟨rfl, hb6⟩
        replace hb6 := Lib.hid (below_on hb5.out hb6)
        have on0 := Lib.hid (ownI_nil w.heap.size w6)
        have a7 := Lib.hid (ownI_alloc on0.out (.cells #[.int .i64 n] 3))
        have d7 := Lib.hid (hb6.out.alloc hb6.out.size (.cells #[.int .i64 n] 3))
        have s7 := Lib.hid (ri_src (ri_of_own (ownI_lit w.heap.size w6 [n] #[.int .i64 n] w6.heap.size 1 rfl hb6.out.size rfl rfl (by unfold maxLen; omega))))
        go_upto_region 14 with (at_builtin; refine wpList_append_src rfl _ _ 22 rfl w.heap.size 3 i0 (.int .i64 0) 8 Tryd.underlying22 hi hz0 hz1 hz2 rfl _ _ _ rfl a7.out _ _ rfl s7.out (oneCellI _) (by unfold maxLen; first | (simp; done) | (simp; omega)) (by first | (simp; done) | (simp; omega)) d7.out.size ?_; intro v7 w7 ho7 hg7; have o7 := Lib.hid (ownI_of_row (l := [n]) ho7 (by (try simp); try omega) (by (try simp); try omega)); have b7 := Lib.hid (below_row d7.out hg7 d7.out.size a7.out (Nat.le_refl _)); clear ho7 hg7)
        have hr := Lib.hid (ri_of_own o7.out)
        obtain ⟨pr, cr, rfl⟩ := ri_form hr.out
        have hl3 := Lib.hid (ri_of_own (ownI_lit w.heap.size w7 [a, m, n] #[.int .i64 a, .int .i64 m, .int .i64 n] w7.heap.size 3 rfl b7.out.size rfl rfl (by unfold maxLen; omega)))
        have bl3 := Lib.hid (b7.out.alloc b7.out.size (.cells #[.int .i64 a, .int .i64 m, .int .i64 n] 3))
        go_upto_region 15 with (fail)
        refine (compose_of hC (m := x :: [n]) hcomp.out (by simp) hl3.out hw3).mono ?_
        rintro e w9 ⟨vc, rfl, rc, hb9⟩
        obtain ⟨pc, cc, rfl⟩ := ri_form rc
        obtain ⟨bc, oc, rfl, hbc, hcc⟩ := ri_at rc (by simp)
        have c0 : w9.cell? ⟨bc, oc, none⟩ = some (.int .i64 x) := hcc 0 (by simp)
        have c1 : w9.cell? ⟨bc, oc + 1, none⟩ = some (.int .i64 n) := hcc 1 (by simp)
        have hr9 := ri_below hr.out (((Below.refl _ w7).alloc (Nat.le_refl _) (.cells #[.int .i64 a, .int .i64 m, .int .i64 n] 3)).trans (hb9.mono (by simp)))
        obtain ⟨br, orr, rfl, hbr, hcr⟩ := ri_at hr9 (by simp)
        have r0 : w9.cell? ⟨br, orr, none⟩ = some (.int .i64 n) := hcr 0 (by simp)
        clear hcr hr9 hr
        have b9 := Lib.hid (below_on bl3.out hb9)
        clear hcc rc hb9 hl3 bl3
        go_wp2_with fail
        refine wp_loop_rounds 2 ?_
        rw [rounds_succ]
        go_wp2_with fail
        go_quiet (fail)
        go_wp2_with fail
        rw [rounds_succ]
        go_wp2_with fail
        go_ret
        first | exact ⟨rfl, b9.out⟩ | exact ⟨rfl, below_on b9.out (drewN_below w9 _)⟩ | exact ⟨rfl, by rw [World.drewN_drewN]; exact below_on b9.out (drewN_below w9 _)⟩
    | none =>
      rw [hj] at h3
      have hj1 := Lib.hid (hN a m hj)
      cases hj' : Par.joinI a n with
      | some y =>
        have hj2 := Lib.hid (hY a n y hj')
        by_cases hc : kn ≤ km
        · have hcomp := Lib.hid (show Can.composeI [a, m, n] = a :: [m, n] by rw [h3]; simp [hc])
          have hlt : decide (km < kn) = false := decide_eq_false (by omega)
          clear h3 hj hj' hY hN hc
          go_enter Tryd.func7, Tryd.ntmps7
          go_wp2_with fail
          refine (hawake.out w).mono ?_
          rintro e w1 ⟨rfl, hb1⟩
          replace hb1 := Lib.hid hb1
          go_wp2_with fail
          refine (hma.out _).mono ?_
          rintro e w2 ⟨rfl, hb2⟩
          replace hb2 := Lib.hid (below_on hb1.out hb2)
          go_wp2_with fail
          refine (hmm.out _).mono ?_
          rintro e w3 ⟨rfl, hb3⟩
          replace hb3 := Lib.hid (below_on hb2.out hb3)
          go_wp2_with fail
          refine (hmn.out _).mono ?_
          rintro e w4 ⟨rfl, hb4⟩
          replace hb4 := Lib.hid (below_on hb3.out hb4)
          go_wp2_with fail
          refine (hj1.out _).mono ?_
          rintro e w5 ⟨rfl, hb5⟩
          replace hb5 := Lib.hid (below_on hb4.out hb5)
          have on0 := Lib.hid (ownI_nil w.heap.size w5)
          have a6 := Lib.hid (ownI_alloc on0.out (.cells #[.int .i64 m] 3))
          have d6 := Lib.hid (hb5.out.alloc hb5.out.size (.cells #[.int .i64 m] 3))
          have s6 := Lib.hid (ri_src (ri_of_own (ownI_lit w.heap.size w5 [m] #[.int .i64 m] w5.heap.size 1 rfl hb5.out.size rfl rfl (by unfold maxLen; omega))))
          go_upto_region 10 with (at_builtin; refine wpList_append_src rfl _ _ 22 rfl w.heap.size 3 i0 (.int .i64 0) 8 Tryd.underlying22 hi hz0 hz1 hz2 rfl _ _ _ rfl a6.out _ _ rfl s6.out (oneCellI _) (by unfold maxLen; first | (simp; done) | (simp; omega)) (by first | (simp; done) | (simp; omega)) d6.out.size ?_; intro v6 w6 ho6 hg6; have o6 := Lib.hid (ownI_of_row (l := [m]) ho6 (by (try simp); try omega) (by (try simp); try omega)); have b6 := Lib.hid (below_row d6.out hg6 d6.out.size a6.out (Nat.le_refl _)); clear ho6 hg6)
          go_wp2_with fail
          refine (hj2.out _).mono ?_
          rintro e w7 ⟨rfl, hb7⟩
          have o7 := Lib.hid (ownI_below o6.out hb7)
          replace hb7 := Lib.hid (below_on b6.out hb7)
          go_wp2_with fail
          refine (hkm.out _).mono ?_
          rintro e w8 ⟨rfl, hb8⟩
          have o8 := Lib.hid (ownI_below o7.out hb8)
          replace hb8 := Lib.hid (below_on hb7.out hb8)
          go_wp2_with fail
          refine (hkn.out _).mono ?_
          rintro e w10 ⟨rfl, hb10⟩
          have o10 := Lib.hid (ownI_below o8.out hb10)
          replace hb10 := Lib.hid (below_on hb8.out hb10)
          have a11 := Lib.hid (ownI_alloc o10.out (.cells #[.int .i64 n] 3))
          have d11 := Lib.hid (hb10.out.alloc hb10.out.size (.cells #[.int .i64 n] 3))
          have s11 := Lib.hid (ri_src (ri_of_own (ownI_lit w.heap.size w10 [n] #[.int .i64 n] w10.heap.size 1 rfl hb10.out.size rfl rfl (by unfold maxLen; omega))))
          go_upto_region 14 with (at_builtin; refine wpList_append_src rfl _ _ 22 rfl w.heap.size 3 i0 (.int .i64 0) 8 Tryd.underlying22 hi hz0 hz1 hz2 rfl _ _ _ rfl a11.out _ _ rfl s11.out (oneCellI _) (by unfold maxLen; first | (simp; done) | (simp; omega)) (by first | (simp; done) | (simp; omega)) d11.out.size ?_; intro v11 w11 ho11 hg11; have o11 := Lib.hid (ownI_of_row (l := [m, n]) ho11 (by (try simp); try omega) (by (try simp); try omega)); have b11 := Lib.hid (below_row d11.out hg11 d11.out.size a11.out (Nat.le_refl _)); clear ho11 hg11)
          have hr := Lib.hid (ri_of_own o11.out)
          obtain ⟨pr, cr, rfl⟩ := ri_form hr.out
          have hl3 := Lib.hid (ri_of_own (ownI_lit w.heap.size w11 [a, m, n] #[.int .i64 a, .int .i64 m, .int .i64 n] w11.heap.size 3 rfl b11.out.size rfl rfl (by unfold maxLen; omega)))
          have bl3 := Lib.hid (b11.out.alloc b11.out.size (.cells #[.int .i64 a, .int .i64 m, .int .i64 n] 3))
          go_upto_region 15 with (fail)
          refine (compose_of hC (m := a :: [m, n]) hcomp.out (by simp) hl3.out hw3).mono ?_
          rintro e w9 ⟨vc, rfl, rc, hb9⟩
          obtain ⟨pc, cc, rfl⟩ := ri_form rc
          obtain ⟨bc, oc, rfl, hbc, hcc⟩ := ri_at rc (by simp)
          have c0 : w9.cell? ⟨bc, oc, none⟩ = some (.int .i64 a) := hcc 0 (by simp)
          have c1 : w9.cell? ⟨bc, oc + 1, none⟩ = some (.int .i64 m) := hcc 1 (by simp)
          have c2 : w9.cell? ⟨bc, oc + 2, none⟩ = some (.int .i64 n) := hcc 2 (by simp)
          have hr9 := ri_below hr.out (((Below.refl _ w11).alloc (Nat.le_refl _) (.cells #[.int .i64 a, .int .i64 m, .int .i64 n] 3)).trans (hb9.mono (by simp)))
          obtain ⟨br, orr, rfl, hbr, hcr⟩ := ri_at hr9 (by simp)
          have r0 : w9.cell? ⟨br, orr, none⟩ = some (.int .i64 m) := hcr 0 (by simp)
          have r1 : w9.cell? ⟨br, orr + 1, none⟩ = some (.int .i64 n) := hcr 1 (by simp)
          clear hcr hr9 hr
          have b9 := Lib.hid (below_on bl3.out hb9)
          clear hcc rc hb9 hl3 bl3
          go_wp2_with fail
          refine wp_loop_rounds 3 ?_
          rw [rounds_succ]
          go_wp2_with fail
          go_quiet (fail)
          go_wp2_with fail
          rw [rounds_succ]
          go_wp2_with fail
          go_quiet (fail)
          go_wp2_with fail
          rw [rounds_succ]
          go_wp2_with fail
          go_ret
          first | exact ⟨rfl, b9.out⟩ | exact ⟨rfl, below_on b9.out (drewN_below w9 _)⟩ | exact ⟨rfl, by rw [World.drewN_drewN]; exact below_on b9.out (drewN_below w9 _)⟩
        · have hcomp := Lib.hid (show Can.composeI [a, m, n] = y :: [m] by rw [h3]; simp [hc, hj'])
          have hlt : decide (km < kn) = true := decide_eq_true (by omega)
          clear h3 hj hj' hY hN hc
          go_enter Tryd.func7, Tryd.ntmps7
          go_wp2_with fail
          refine (hawake.out w).mono ?_
          rintro e w1 ⟨rfl, hb1⟩
          replace hb1 := Lib.hid hb1
          go_wp2_with fail
          refine (hma.out _).mono ?_
          rintro e w2 ⟨rfl, hb2⟩
          replace hb2 := Lib.hid (below_on hb1.out hb2)
          go_wp2_with fail
          refine (hmm.out _).mono ?_
          rintro e w3 ⟨rfl, hb3⟩
          replace hb3 := Lib.hid (below_on hb2.out hb3)
          go_wp2_with fail
          refine (hmn.out _).mono ?_
          rintro e w4 ⟨rfl, hb4⟩
          replace hb4 := Lib.hid (below_on hb3.out hb4)
          go_wp2_with fail
          refine (hj1.out _).mono ?_
          rintro e w5 ⟨rfl, hb5⟩
          replace hb5 := Lib.hid (below_on hb4.out hb5)
          have on0 := Lib.hid (ownI_nil w.heap.size w5)
          have a6 := Lib.hid (ownI_alloc on0.out (.cells #[.int .i64 m] 3))
          have d6 := Lib.hid (hb5.out.alloc hb5.out.size (.cells #[.int .i64 m] 3))
          have s6 := Lib.hid (ri_src (ri_of_own (ownI_lit w.heap.size w5 [m] #[.int .i64 m] w5.heap.size 1 rfl hb5.out.size rfl rfl (by unfold maxLen; omega))))
          go_upto_region 10 with (at_builtin; refine wpList_append_src rfl _ _ 22 rfl w.heap.size 3 i0 (.int .i64 0) 8 Tryd.underlying22 hi hz0 hz1 hz2 rfl _ _ _ rfl a6.out _ _ rfl s6.out (oneCellI _) (by unfold maxLen; first | (simp; done) | (simp; omega)) (by first | (simp; done) | (simp; omega)) d6.out.size ?_; intro v6 w6 ho6 hg6; have o6 := Lib.hid (ownI_of_row (l := [m]) ho6 (by (try simp); try omega) (by (try simp); try omega)); have b6 := Lib.hid (below_row d6.out hg6 d6.out.size a6.out (Nat.le_refl _)); clear ho6 hg6)
          go_wp2_with fail
          refine (hj2.out _).mono ?_
          rintro e w7 ⟨rfl, hb7⟩
          have o7 := Lib.hid (ownI_below o6.out hb7)
          replace hb7 := Lib.hid (below_on b6.out hb7)
          go_wp2_with fail
          refine (hkm.out _).mono ?_
          rintro e w8 ⟨rfl, hb8⟩
          have o8 := Lib.hid (ownI_below o7.out hb8)
          replace hb8 := Lib.hid (below_on hb7.out hb8)
          go_wp2_with fail
          refine (hkn.out _).mono ?_
          rintro e w10 ⟨rfl, hb10⟩
          have o10 := Lib.hid (ownI_below o8.out hb10)
          replace hb10 := Lib.hid (below_on hb8.out hb10)
          have hr := Lib.hid (ri_of_own o10.out)
          obtain ⟨pr, cr, rfl⟩ := ri_form hr.out
          have hl3 := Lib.hid (ri_of_own (ownI_lit w.heap.size w10 [a, m, n] #[.int .i64 a, .int .i64 m, .int .i64 n] w10.heap.size 3 rfl hb10.out.size rfl rfl (by unfold maxLen; omega)))
          have bl3 := Lib.hid (hb10.out.alloc hb10.out.size (.cells #[.int .i64 a, .int .i64 m, .int .i64 n] 3))
          go_upto_region 15 with (fail)
          refine (compose_of hC (m := y :: [m]) hcomp.out (by simp) hl3.out hw3).mono ?_
          rintro e w9 ⟨vc, rfl, rc, hb9⟩
          obtain ⟨pc, cc, rfl⟩ := ri_form rc
          obtain ⟨bc, oc, rfl, hbc, hcc⟩ := ri_at rc (by simp)
          have c0 : w9.cell? ⟨bc, oc, none⟩ = some (.int .i64 y) := hcc 0 (by simp)
          have c1 : w9.cell? ⟨bc, oc + 1, none⟩ = some (.int .i64 m) := hcc 1 (by simp)
          have hr9 := ri_below hr.out (((Below.refl _ w10).alloc (Nat.le_refl _) (.cells #[.int .i64 a, .int .i64 m, .int .i64 n] 3)).trans (hb9.mono (by simp)))
          obtain ⟨br, orr, rfl, hbr, hcr⟩ := ri_at hr9 (by simp)
          have r0 : w9.cell? ⟨br, orr, none⟩ = some (.int .i64 m) := hcr 0 (by simp)
          clear hcr hr9 hr
          have b9 := Lib.hid (below_on bl3.out hb9)
          clear hcc rc hb9 hl3 bl3
          go_wp2_with fail
          refine wp_loop_rounds 2 ?_
          rw [rounds_succ]
          go_wp2_with fail
          go_quiet (fail)
          go_wp2_with fail
          rw [rounds_succ]
          go_wp2_with fail
          go_ret
          first | exact ⟨rfl, b9.out⟩ | exact ⟨rfl, below_on b9.out (drewN_below w9 _)⟩ | exact ⟨rfl, by rw [World.drewN_drewN]; exact below_on b9.out (drewN_below w9 _)⟩
      | none =>
        have hj2 := Lib.hid (hN a n hj')
        have hcomp := Lib.hid (show Can.composeI [a, m, n] = a :: [m, n] by rw [h3]; simp [hj'])
        clear h3 hj hj' hY hN
        go_enter Tryd.func7, Tryd.ntmps7
        go_wp2_with fail
        refine (hawake.out w).mono ?_
        rintro e w1 ⟨rfl, hb1⟩
        replace hb1 := Lib.hid hb1
        go_wp2_with fail
        refine (hma.out _).mono ?_
        rintro e w2 ⟨rfl, hb2⟩
        replace hb2 := Lib.hid (below_on hb1.out hb2)
        go_wp2_with fail
        refine (hmm.out _).mono ?_
        rintro e w3 ⟨rfl, hb3⟩
        replace hb3 := Lib.hid (below_on hb2.out hb3)
        go_wp2_with fail
        refine (hmn.out _).mono ?_
        rintro e w4 ⟨rfl, hb4⟩
        replace hb4 := Lib.hid (below_on hb3.out hb4)
        go_wp2_with fail
        refine (hj1.out _).mono ?_
        rintro e w5 ⟨rfl, hb5⟩
        replace hb5 := Lib.hid (below_on hb4.out hb5)
        have on0 := Lib.hid (ownI_nil w.heap.size w5)
        have a6 := Lib.hid (ownI_alloc on0.out (.cells #[.int .i64 m] 3))
        have d6 := Lib.hid (hb5.out.alloc hb5.out.size (.cells #[.int .i64 m] 3))
        have s6 := Lib.hid (ri_src (ri_of_own (ownI_lit w.heap.size w5 [m] #[.int .i64 m] w5.heap.size 1 rfl hb5.out.size rfl rfl (by unfold maxLen; omega))))
        go_upto_region 10 with (at_builtin; refine wpList_append_src rfl _ _ 22 rfl w.heap.size 3 i0 (.int .i64 0) 8 Tryd.underlying22 hi hz0 hz1 hz2 rfl _ _ _ rfl a6.out _ _ rfl s6.out (oneCellI _) (by unfold maxLen; first | (simp; done) | (simp; omega)) (by first | (simp; done) | (simp; omega)) d6.out.size ?_; intro v6 w6 ho6 hg6; have o6 := Lib.hid (ownI_of_row (l := [m]) ho6 (by (try simp); try omega) (by (try simp); try omega)); have b6 := Lib.hid (below_row d6.out hg6 d6.out.size a6.out (Nat.le_refl _)); clear ho6 hg6)
        go_wp2_with fail
        refine (hj2.out _).mono ?_
        rintro e w7 ⟨rfl, hb7⟩
        have o7 := Lib.hid (ownI_below o6.out hb7)
        replace hb7 := Lib.hid (below_on b6.out hb7)
        have a8 := Lib.hid (ownI_alloc o7.out (.cells #[.int .i64 n] 3))
        have d8 := Lib.hid (hb7.out.alloc hb7.out.size (.cells #[.int .i64 n] 3))
        have s8 := Lib.hid (ri_src (ri_of_own (ownI_lit w.heap.size w7 [n] #[.int .i64 n] w7.heap.size 1 rfl hb7.out.size rfl rfl (by unfold maxLen; omega))))
        go_upto_region 14 with (at_builtin; refine wpList_append_src rfl _ _ 22 rfl w.heap.size 3 i0 (.int .i64 0) 8 Tryd.underlying22 hi hz0 hz1 hz2 rfl _ _ _ rfl a8.out _ _ rfl s8.out (oneCellI _) (by unfold maxLen; first | (simp; done) | (simp; omega)) (by first | (simp; done) | (simp; omega)) d8.out.size ?_; intro v8 w8 ho8 hg8; have o8 := Lib.hid (ownI_of_row (l := [m, n]) ho8 (by (try simp); try omega) (by (try simp); try omega)); have b8 := Lib.hid (below_row d8.out hg8 d8.out.size a8.out (Nat.le_refl _)); clear ho8 hg8)
        have hr := Lib.hid (ri_of_own o8.out)
        obtain ⟨pr, cr, rfl⟩ := ri_form hr.out
        have hl3 := Lib.hid (ri_of_own (ownI_lit w.heap.size w8 [a, m, n] #[.int .i64 a, .int .i64 m, .int .i64 n] w8.heap.size 3 rfl b8.out.size rfl rfl (by unfold maxLen; omega)))
        have bl3 := Lib.hid (b8.out.alloc b8.out.size (.cells #[.int .i64 a, .int .i64 m, .int .i64 n] 3))
        go_upto_region 15 with (fail)
        refine (compose_of hC (m := a :: [m, n]) hcomp.out (by simp) hl3.out hw3).mono ?_
        rintro e w9 ⟨vc, rfl, rc, hb9⟩
        obtain ⟨pc, cc, rfl⟩ := ri_form rc
        obtain ⟨bc, oc, rfl, hbc, hcc⟩ := ri_at rc (by simp)
        have c0 : w9.cell? ⟨bc, oc, none⟩ = some (.int .i64 a) := hcc 0 (by simp)
        have c1 : w9.cell? ⟨bc, oc + 1, none⟩ = some (.int .i64 m) := hcc 1 (by simp)
        have c2 : w9.cell? ⟨bc, oc + 2, none⟩ = some (.int .i64 n) := hcc 2 (by simp)
        have hr9 := ri_below hr.out (((Below.refl _ w8).alloc (Nat.le_refl _) (.cells #[.int .i64 a, .int .i64 m, .int .i64 n] 3)).trans (hb9.mono (by simp)))
        obtain ⟨br, orr, rfl, hbr, hcr⟩ := ri_at hr9 (by simp)
        have r0 : w9.cell? ⟨br, orr, none⟩ = some (.int .i64 m) := hcr 0 (by simp)
        have r1 : w9.cell? ⟨br, orr + 1, none⟩ = some (.int .i64 n) := hcr 1 (by simp)
        clear hcr hr9 hr
        have b9 := Lib.hid (below_on bl3.out hb9)
        clear hcc rc hb9 hl3 bl3
        go_wp2_with fail
        refine wp_loop_rounds 3 ?_
        rw [rounds_succ]
        go_wp2_with fail
        go_quiet (fail)
        go_wp2_with fail
        rw [rounds_succ]
        go_wp2_with fail
        go_quiet (fail)
        go_wp2_with fail
        rw [rounds_succ]
        go_wp2_with fail
        go_ret
        first | exact ⟨rfl, b9.out⟩ | exact ⟨rfl, below_on b9.out (drewN_below w9 _)⟩ | exact ⟨rfl, by rw [World.drewN_drewN]; exact below_on b9.out (drewN_below w9 _)⟩

end Go.Proofs.YtkhjkodeolaemaaDoor
