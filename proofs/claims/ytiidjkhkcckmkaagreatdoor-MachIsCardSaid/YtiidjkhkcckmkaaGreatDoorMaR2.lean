/- Layer 15: the document's Sane. -/
import Derived.Test.YtiidjkhkcckmkaaGreatDoorMaBP
import Derived.Test.YtiidjkhkcckmkaaGreatDoorDcRP
import Derived.Test.YtiidjkhkcckmkaaGreatDoorNoRP
import Derived.Test.YtiidjkhkcckmkaaGreatDoorSgRP
namespace Go.Proofs.YtiidjkhkcckmkaaGreatDoor
set_option linter.unusedSimpArgs false
set_option linter.unusedVariables false
open Go.RowKit Go.Lib
open Mch (MS)
set_option maxHeartbeats 12800000 in
set_option maxRecDepth 100000 in
theorem rsane15_any (v : Value) (m : MS) (w : World) (hs : Mch.Small m) (hv : RM w v m) : Calls Tryz.prog 21 #[v] w fun e w' => e = .returned (.bool (Mch.saneM m)) ∧ Below w.heap.size w w' := by
  obtain ⟨vn, vg, vc, rfl, hvn, hvg, hvc⟩ := hv
  obtain ⟨pn, cn, rfl⟩ := ri_form hvn
  obtain ⟨pg, cg, rfl⟩ := ri_form hvg
  obtain ⟨pc, cc, rfl⟩ := ri_form hvc
  obtain ⟨hsd, hsn, hsg, hsc⟩ := hs
  obtain ⟨kind, d, n, g, ⟨on, kd, pi, od⟩, c⟩ := m
  unfold mchV strV
  dsimp only at hvn hvg hvc hsd hsn hsg hsc ⊢
  obtain ⟨S, hS⟩ : ∃ S : ByteArray, (⟨d.toArray⟩ : ByteArray) = S := ⟨_, rfl⟩
  have hSd : S.data.toList = d := by rw [← hS]
  have hSe : S = ⟨#[]⟩ ↔ d = [] := by
    rw [← hS]
    constructor
    · intro h
      have := congrArg (fun b : ByteArray => b.data.toList) h
      simpa using this
    · rintro rfl
      rfl
  have hSz : RowKit.Hid (S.size = 0 ↔ d = []) := by
    rw [← hS, show (⟨d.toArray⟩ : ByteArray).size = d.length by show d.toArray.size = _; simp]
    exact List.length_eq_zero_iff
  rw [hS]
  have hb := below_new w (.cells #[.int .i64 kind, .string S, .slice pn n.length cn, .slice pg g.length cg, .bool on, .int .i64 kd, .bool pi, .bool od, .slice pc c.length cc] 32)
  have hx := Lib.hid (blk_new w #[.int .i64 kind, .string S, .slice pn n.length cn, .slice pg g.length cg, .bool on, .int .i64 kd, .bool pi, .bool od, .slice pc c.length cc] 32)
  obtain ⟨W, hW⟩ : ∃ W, w.alloc (.cells #[.int .i64 kind, .string S, .slice pn n.length cn, .slice pg g.length cg, .bool on, .int .i64 kd, .bool pi, .bool od, .slice pc c.length cc] 32) = W := ⟨_, rfl⟩
  rw [hW] at hb hx
  have hvnW := Lib.hid (ri_below hvn hb)
  have hvgW := Lib.hid (ri_below hvg hb)
  have hvcW := Lib.hid (ri_below hvc hb)
  have hA := fun W' => Tq.rsane_any S d hSd (by omega) W'
  have hBn := fun W' (h : RI W' (.slice pn n.length cn) n) => rsane9_any _ n W' (by omega) h
  have hCg := fun W' (h : RI W' (.slice pg g.length cg) g) => rsane12_any _ g ⟨on, kd, pi, od⟩ W' (by omega) h
  unfold sgV at hCg
  dsimp only at hCg
  obtain ⟨R, hR⟩ : ∃ R, Mch.saneM ⟨kind, d, n, g, ⟨on, kd, pi, od⟩, c⟩ = R := ⟨_, rfl⟩
  rw [hR]
  unfold Mch.saneM at hR
  dsimp only at hR
  obtain ⟨A, hAe⟩ : ∃ A, Dec.saneL d = A := ⟨_, rfl⟩
  obtain ⟨Bn, hBe⟩ : ∃ Bn, Nor.saneB n = Bn := ⟨_, rfl⟩
  obtain ⟨Cg, hCe⟩ : ∃ Cg, Sgm.saneB g ⟨on, kd, pi, od⟩ = Cg := ⟨_, rfl⟩
  rw [hAe] at hA hR
  rw [hBe] at hBn hR
  rw [hCe] at hCg hR
  unfold Tq.BoolRes at hA
  replace hA := Lib.hid hA
  replace hBn := Lib.hid hBn
  replace hCg := Lib.hid hCg
  replace hR := Lib.hid hR
  replace hb := Lib.hid hb
  replace hW := Lib.hid hW
  clear hvn hvg hvc hAe hBe hCe hS hSd
  replace hSe := Lib.hid hSe
  by_cases hk : 0 ≤ kind ∧ kind ≤ 4
  · rcases A with _ | _
    · obtain ⟨k1, k2⟩ := hk
      have t1 : ¬ kind < 0 := by omega
      have t2 : ¬ 4 < kind := by omega
      go_enter Tryz.func21, Tryz.ntmps21
      go_upto_region 1 with (fail)
      rw [hW.out]
      obtain ⟨c0, c1, c2, c3, c4, c5, c6, c7, c8⟩ := held9 hx.out
      go_wp2_with (first | (go_at_call 51; refine (hA.out _).mono ?_; rintro e w1 ⟨rfl, q1⟩; have x1 := Lib.hid (blk_below hx.out q1); have b1 := Lib.hid (below_on hb.out q1); clear c0 c1 c2 c3 c4 c5 c6 c7 c8; obtain ⟨c0, c1, c2, c3, c4, c5, c6, c7, c8⟩ := held9 x1.out; have n1 := Lib.hid (ri_below hvnW.out q1); have g1 := Lib.hid (ri_below hvgW.out q1); have v1 := Lib.hid (ri_below hvcW.out q1); clear q1))
      go_ret
      exact ⟨ret_bool (by rw [← hR.out]; simp), b1.out⟩
    · rcases Bn with _ | _
      · obtain ⟨k1, k2⟩ := hk
        have t1 : ¬ kind < 0 := by omega
        have t2 : ¬ 4 < kind := by omega
        go_enter Tryz.func21, Tryz.ntmps21
        go_upto_region 1 with (fail)
        rw [hW.out]
        obtain ⟨c0, c1, c2, c3, c4, c5, c6, c7, c8⟩ := held9 hx.out
        go_wp2_with (first | (go_at_call 51; refine (hA.out _).mono ?_; rintro e w1 ⟨rfl, q1⟩; have x1 := Lib.hid (blk_below hx.out q1); have b1 := Lib.hid (below_on hb.out q1); clear c0 c1 c2 c3 c4 c5 c6 c7 c8; obtain ⟨c0, c1, c2, c3, c4, c5, c6, c7, c8⟩ := held9 x1.out; have n1 := Lib.hid (ri_below hvnW.out q1); have g1 := Lib.hid (ri_below hvgW.out q1); have v1 := Lib.hid (ri_below hvcW.out q1); clear q1) | (go_at_call 52; refine (hBn.out _ n1.out).mono ?_; rintro e w2 ⟨rfl, q2⟩; have x2 := Lib.hid (blk_below x1.out q2); have b2 := Lib.hid (below_on b1.out q2); clear c0 c1 c2 c3 c4 c5 c6 c7 c8; obtain ⟨c0, c1, c2, c3, c4, c5, c6, c7, c8⟩ := held9 x2.out; have g2 := Lib.hid (ri_below g1.out q2); have v2 := Lib.hid (ri_below v1.out q2); clear q2))
        go_ret
        exact ⟨ret_bool (by rw [← hR.out]; simp), b2.out⟩
      · rcases Cg with _ | _
        · obtain ⟨k1, k2⟩ := hk
          have t1 : ¬ kind < 0 := by omega
          have t2 : ¬ 4 < kind := by omega
          go_enter Tryz.func21, Tryz.ntmps21
          go_upto_region 1 with (fail)
          rw [hW.out]
          obtain ⟨c0, c1, c2, c3, c4, c5, c6, c7, c8⟩ := held9 hx.out
          go_wp2_with (first | (go_at_call 51; refine (hA.out _).mono ?_; rintro e w1 ⟨rfl, q1⟩; have x1 := Lib.hid (blk_below hx.out q1); have b1 := Lib.hid (below_on hb.out q1); clear c0 c1 c2 c3 c4 c5 c6 c7 c8; obtain ⟨c0, c1, c2, c3, c4, c5, c6, c7, c8⟩ := held9 x1.out; have n1 := Lib.hid (ri_below hvnW.out q1); have g1 := Lib.hid (ri_below hvgW.out q1); have v1 := Lib.hid (ri_below hvcW.out q1); clear q1) | (go_at_call 52; refine (hBn.out _ n1.out).mono ?_; rintro e w2 ⟨rfl, q2⟩; have x2 := Lib.hid (blk_below x1.out q2); have b2 := Lib.hid (below_on b1.out q2); clear c0 c1 c2 c3 c4 c5 c6 c7 c8; obtain ⟨c0, c1, c2, c3, c4, c5, c6, c7, c8⟩ := held9 x2.out; have g2 := Lib.hid (ri_below g1.out q2); have v2 := Lib.hid (ri_below v1.out q2); clear q2) | (go_at_call 53; refine (hCg.out _ g2.out).mono ?_; rintro e w3 ⟨rfl, q3⟩; have x3 := Lib.hid (blk_below x2.out q3); have b3 := Lib.hid (below_on b2.out q3); clear c0 c1 c2 c3 c4 c5 c6 c7 c8; obtain ⟨c0, c1, c2, c3, c4, c5, c6, c7, c8⟩ := held9 x3.out; have v3 := Lib.hid (ri_below v2.out q3); clear q3))
          go_ret
          exact ⟨ret_bool (by rw [← hR.out]; simp), b3.out⟩
        · have t1 : ¬ kind < 0 := by omega
          have t2 : ¬ 4 < kind := by omega
          by_cases h32 : c.length ≤ 32
          · have t3 : ¬ (32 : Int) < (c.length : Int) := by omega
            replace hk := Lib.hid hk
            go_enter Tryz.func21, Tryz.ntmps21
            go_upto_region 1 with (fail)
            rw [hW.out]
            obtain ⟨c0, c1, c2, c3, c4, c5, c6, c7, c8⟩ := held9 hx.out
            go_wp2_with (first | (go_at_call 51; refine (hA.out _).mono ?_; rintro e w1 ⟨rfl, q1⟩; have x1 := Lib.hid (blk_below hx.out q1); have b1 := Lib.hid (below_on hb.out q1); clear c0 c1 c2 c3 c4 c5 c6 c7 c8; obtain ⟨c0, c1, c2, c3, c4, c5, c6, c7, c8⟩ := held9 x1.out; have n1 := Lib.hid (ri_below hvnW.out q1); have g1 := Lib.hid (ri_below hvgW.out q1); have v1 := Lib.hid (ri_below hvcW.out q1); clear q1) | (go_at_call 52; refine (hBn.out _ n1.out).mono ?_; rintro e w2 ⟨rfl, q2⟩; have x2 := Lib.hid (blk_below x1.out q2); have b2 := Lib.hid (below_on b1.out q2); clear c0 c1 c2 c3 c4 c5 c6 c7 c8; obtain ⟨c0, c1, c2, c3, c4, c5, c6, c7, c8⟩ := held9 x2.out; have g2 := Lib.hid (ri_below g1.out q2); have v2 := Lib.hid (ri_below v1.out q2); clear q2) | (go_at_call 53; refine (hCg.out _ g2.out).mono ?_; rintro e w3 ⟨rfl, q3⟩; have x3 := Lib.hid (blk_below x2.out q3); have b3 := Lib.hid (below_on b2.out q3); clear c0 c1 c2 c3 c4 c5 c6 c7 c8; obtain ⟨c0, c1, c2, c3, c4, c5, c6, c7, c8⟩ := held9 x3.out; have v3 := Lib.hid (ri_below v2.out q3); clear q3))
            go_loopg [3] c.length (fun g vi wr => ∃ k : Nat, k ≤ c.length ∧ vi = .int .i64 k ∧ g = c.length - k ∧ (∀ i (h : i < c.length), i < k → c[i] ≠ -1) ∧ wr = w3)
            case atStart => exact ⟨0, Nat.zero_le _, rfl, rfl, fun i _ hi => absurd hi (Nat.not_lt_zero _), rfl⟩
            case round =>
              obtain ⟨k, hkc, rfl, rfl, hpre, rfl⟩ := hrel
              by_cases hlt : k < c.length
              · have hlt' : (k : Int) < (c.length : Int) := by omega
                obtain ⟨b, off, rfl, hb, hcell⟩ := ri_at v3.out (by omega)
                have hc := hcell k hlt
                have hmem := List.getElem_mem hlt
                obtain ⟨x, hx⟩ : ∃ x, c[k] = x := ⟨_, rfl⟩
                rw [hx] at hc hmem
                clear hcell
                replace hmem := Lib.hid hmem
                by_cases h1 : x = -1
                · subst h1
                  replace hx := Lib.hid hx
                  replace hpre := Lib.hid hpre
                  have hcall : (c.all fun x => decide (x ≠ -1)) = false := by
                    rw [List.all_eq_false]
                    exact ⟨-1, hmem.out, by simp⟩
                  replace hcall := Lib.hid hcall
                  go_wp2_with fail
                  go_ret
                  exact ⟨ret_bool (by rw [← hR.out, hcall.out]; simp), b3.out⟩
                · have hpre2 : ∀ i (h : i < c.length), i < k + 1 → c[i] ≠ -1 := by
                    intro i h hi
                    rcases Nat.lt_or_ge i k with h' | h'
                    · exact hpre i h h'
                    · obtain rfl : i = k := by omega
                      rw [hx]
                      exact h1
                  replace hx := Lib.hid hx
                  replace hpre := Lib.hid hpre
                  replace hpre2 := Lib.hid hpre2
                  go_wp2_with fail
                  go_roundg (c.length - (k + 1))
                  case measure => omega
                  case rel => exact ⟨k + 1, by omega, by go_num, rfl, hpre2.out, rfl⟩
              · obtain rfl : k = c.length := by omega
                have hlt' : decide ((c.length : Int) < (c.length : Int)) = false := by simp
                have hcall : (c.all fun x => decide (x ≠ -1)) = true := by
                  rw [List.all_eq_true]
                  intro x hx
                  obtain ⟨i, hi, rfl⟩ := List.mem_iff_getElem.1 hx
                  simpa using hpre i hi hi
                replace hcall := Lib.hid hcall
                replace hpre := Lib.hid hpre
                go_upto_region 8 with (fail)
                have hk5 : kind = 0 ∨ kind = 1 ∨ kind = 2 ∨ kind = 3 ∨ kind = 4 := by have := hk.out; omega
                clear hk t1 t2
                rcases hk5 with rfl | rfl | rfl | rfl | rfl
                · skip
                  by_cases hn : n = []
                  · skip
                    subst hn
                    by_cases hg : g = []
                    · skip
                      subst hg
                      rcases on with _ | _
                      · skip
                        by_cases hc : c = []
                        · skip
                          subst hc
                          go_wp2_with fail
                          go_ret
                          refine ⟨ret_bool ?_, b3.out⟩
                          rw [← hR.out, hcall.out]
                          simp [h32]
                        · skip
                          have tc : ¬ ((c.length : Int) = 0) := fun e => hc (List.eq_nil_of_length_eq_zero (by omega))
                          have uc : ((c.length : Int) == 0) = false := beq_eq_false_iff_ne.2 tc
                          go_wp2_with fail
                          go_ret
                          refine ⟨ret_bool ?_, b3.out⟩
                          rw [← hR.out, hcall.out]
                          simp [h32, hc, uc]
                      · skip
                        go_wp2_with fail
                        go_ret
                        refine ⟨ret_bool ?_, b3.out⟩
                        rw [← hR.out, hcall.out]
                        simp [h32]
                    · skip
                      have tg : ¬ ((g.length : Int) = 0) := fun e => hg (List.eq_nil_of_length_eq_zero (by omega))
                      have ug : ((g.length : Int) == 0) = false := beq_eq_false_iff_ne.2 tg
                      go_wp2_with fail
                      go_ret
                      refine ⟨ret_bool ?_, b3.out⟩
                      rw [← hR.out, hcall.out]
                      simp [h32, hg, ug]
                  · skip
                    have tn : ¬ ((n.length : Int) = 0) := fun e => hn (List.eq_nil_of_length_eq_zero (by omega))
                    have un : ((n.length : Int) == 0) = false := beq_eq_false_iff_ne.2 tn
                    go_wp2_with fail
                    go_ret
                    refine ⟨ret_bool ?_, b3.out⟩
                    rw [← hR.out, hcall.out]
                    simp [h32, hn, un]
                · skip
                  by_cases hd : d = []
                  · skip
                    have hS0 := hSe.out.2 hd
                    subst hS0
                    clear hSe
                    subst hd
                    by_cases hg : g = []
                    · skip
                      subst hg
                      rcases on with _ | _
                      · skip
                        by_cases hc : c = []
                        · skip
                          subst hc
                          go_wp2_with fail
                          go_ret
                          refine ⟨ret_bool ?_, b3.out⟩
                          rw [← hR.out, hcall.out]
                          simp [h32]
                        · skip
                          have tc : ¬ ((c.length : Int) = 0) := fun e => hc (List.eq_nil_of_length_eq_zero (by omega))
                          have uc : ((c.length : Int) == 0) = false := beq_eq_false_iff_ne.2 tc
                          go_wp2_with fail
                          go_ret
                          refine ⟨ret_bool ?_, b3.out⟩
                          rw [← hR.out, hcall.out]
                          simp [h32, hc, uc]
                      · skip
                        go_wp2_with fail
                        go_ret
                        refine ⟨ret_bool ?_, b3.out⟩
                        rw [← hR.out, hcall.out]
                        simp [h32]
                    · skip
                      have tg : ¬ ((g.length : Int) = 0) := fun e => hg (List.eq_nil_of_length_eq_zero (by omega))
                      have ug : ((g.length : Int) == 0) = false := beq_eq_false_iff_ne.2 tg
                      go_wp2_with fail
                      go_ret
                      refine ⟨ret_bool ?_, b3.out⟩
                      rw [← hR.out, hcall.out]
                      simp [h32, hg, ug]
                  · skip
                    have hSn := Tq.nonempty_of_size (s := S) (fun e => hd (hSz.out.1 e))
                    go_wp2_with fail
                    go_ret
                    refine ⟨ret_bool ?_, b3.out⟩
                    rw [← hR.out, hcall.out]
                    simp [h32, hd]
                · skip
                  by_cases hd : d = []
                  · skip
                    have hS0 := hSe.out.2 hd
                    subst hS0
                    clear hSe
                    subst hd
                    by_cases hg : g = []
                    · skip
                      subst hg
                      rcases on with _ | _
                      · skip
                        by_cases hc : c = []
                        · skip
                          subst hc
                          go_wp2_with fail
                          go_ret
                          refine ⟨ret_bool ?_, b3.out⟩
                          rw [← hR.out, hcall.out]
                          simp [h32]
                        · skip
                          have tc : ¬ ((c.length : Int) = 0) := fun e => hc (List.eq_nil_of_length_eq_zero (by omega))
                          have uc : ((c.length : Int) == 0) = false := beq_eq_false_iff_ne.2 tc
                          go_wp2_with fail
                          go_ret
                          refine ⟨ret_bool ?_, b3.out⟩
                          rw [← hR.out, hcall.out]
                          simp [h32, hc, uc]
                      · skip
                        go_wp2_with fail
                        go_ret
                        refine ⟨ret_bool ?_, b3.out⟩
                        rw [← hR.out, hcall.out]
                        simp [h32]
                    · skip
                      have tg : ¬ ((g.length : Int) = 0) := fun e => hg (List.eq_nil_of_length_eq_zero (by omega))
                      have ug : ((g.length : Int) == 0) = false := beq_eq_false_iff_ne.2 tg
                      go_wp2_with fail
                      go_ret
                      refine ⟨ret_bool ?_, b3.out⟩
                      rw [← hR.out, hcall.out]
                      simp [h32, hg, ug]
                  · skip
                    have hSn := Tq.nonempty_of_size (s := S) (fun e => hd (hSz.out.1 e))
                    go_wp2_with fail
                    go_ret
                    refine ⟨ret_bool ?_, b3.out⟩
                    rw [← hR.out, hcall.out]
                    simp [h32, hd]
                · skip
                  by_cases hd : d = []
                  · skip
                    have hS0 := hSe.out.2 hd
                    subst hS0
                    clear hSe
                    subst hd
                    by_cases hn : n = []
                    · skip
                      subst hn
                      by_cases hc : c = []
                      · skip
                        subst hc
                        go_wp2_with fail
                        go_ret
                        refine ⟨ret_bool ?_, b3.out⟩
                        rw [← hR.out, hcall.out]
                        simp [h32]
                      · skip
                        have tc : ¬ ((c.length : Int) = 0) := fun e => hc (List.eq_nil_of_length_eq_zero (by omega))
                        have uc : ((c.length : Int) == 0) = false := beq_eq_false_iff_ne.2 tc
                        go_wp2_with fail
                        go_ret
                        refine ⟨ret_bool ?_, b3.out⟩
                        rw [← hR.out, hcall.out]
                        simp [h32, hc, uc]
                    · skip
                      have tn : ¬ ((n.length : Int) = 0) := fun e => hn (List.eq_nil_of_length_eq_zero (by omega))
                      have un : ((n.length : Int) == 0) = false := beq_eq_false_iff_ne.2 tn
                      go_wp2_with fail
                      go_ret
                      refine ⟨ret_bool ?_, b3.out⟩
                      rw [← hR.out, hcall.out]
                      simp [h32, hn, un]
                  · skip
                    have hSn := Tq.nonempty_of_size (s := S) (fun e => hd (hSz.out.1 e))
                    go_wp2_with fail
                    go_ret
                    refine ⟨ret_bool ?_, b3.out⟩
                    rw [← hR.out, hcall.out]
                    simp [h32, hd]
                · skip
                  by_cases hd : d = []
                  · skip
                    have hS0 := hSe.out.2 hd
                    subst hS0
                    clear hSe
                    subst hd
                    by_cases hn : n = []
                    · skip
                      subst hn
                      by_cases hg : g = []
                      · skip
                        subst hg
                        rcases on with _ | _
                        · skip
                          go_wp2_with fail
                          go_ret
                          refine ⟨ret_bool ?_, b3.out⟩
                          rw [← hR.out, hcall.out]
                          simp [h32]
                        · skip
                          go_wp2_with fail
                          go_ret
                          refine ⟨ret_bool ?_, b3.out⟩
                          rw [← hR.out, hcall.out]
                          simp [h32]
                      · skip
                        have tg : ¬ ((g.length : Int) = 0) := fun e => hg (List.eq_nil_of_length_eq_zero (by omega))
                        have ug : ((g.length : Int) == 0) = false := beq_eq_false_iff_ne.2 tg
                        go_wp2_with fail
                        go_ret
                        refine ⟨ret_bool ?_, b3.out⟩
                        rw [← hR.out, hcall.out]
                        simp [h32, hg, ug]
                    · skip
                      have tn : ¬ ((n.length : Int) = 0) := fun e => hn (List.eq_nil_of_length_eq_zero (by omega))
                      have un : ((n.length : Int) == 0) = false := beq_eq_false_iff_ne.2 tn
                      go_wp2_with fail
                      go_ret
                      refine ⟨ret_bool ?_, b3.out⟩
                      rw [← hR.out, hcall.out]
                      simp [h32, hn, un]
                  · skip
                    have hSn := Tq.nonempty_of_size (s := S) (fun e => hd (hSz.out.1 e))
                    go_wp2_with fail
                    go_ret
                    refine ⟨ret_bool ?_, b3.out⟩
                    rw [← hR.out, hcall.out]
                    simp [h32, hd]
          · have t3 : (32 : Int) < (c.length : Int) := by omega
            go_enter Tryz.func21, Tryz.ntmps21
            go_upto_region 1 with (fail)
            rw [hW.out]
            obtain ⟨c0, c1, c2, c3, c4, c5, c6, c7, c8⟩ := held9 hx.out
            go_wp2_with (first | (go_at_call 51; refine (hA.out _).mono ?_; rintro e w1 ⟨rfl, q1⟩; have x1 := Lib.hid (blk_below hx.out q1); have b1 := Lib.hid (below_on hb.out q1); clear c0 c1 c2 c3 c4 c5 c6 c7 c8; obtain ⟨c0, c1, c2, c3, c4, c5, c6, c7, c8⟩ := held9 x1.out; have n1 := Lib.hid (ri_below hvnW.out q1); have g1 := Lib.hid (ri_below hvgW.out q1); have v1 := Lib.hid (ri_below hvcW.out q1); clear q1) | (go_at_call 52; refine (hBn.out _ n1.out).mono ?_; rintro e w2 ⟨rfl, q2⟩; have x2 := Lib.hid (blk_below x1.out q2); have b2 := Lib.hid (below_on b1.out q2); clear c0 c1 c2 c3 c4 c5 c6 c7 c8; obtain ⟨c0, c1, c2, c3, c4, c5, c6, c7, c8⟩ := held9 x2.out; have g2 := Lib.hid (ri_below g1.out q2); have v2 := Lib.hid (ri_below v1.out q2); clear q2) | (go_at_call 53; refine (hCg.out _ g2.out).mono ?_; rintro e w3 ⟨rfl, q3⟩; have x3 := Lib.hid (blk_below x2.out q3); have b3 := Lib.hid (below_on b2.out q3); clear c0 c1 c2 c3 c4 c5 c6 c7 c8; obtain ⟨c0, c1, c2, c3, c4, c5, c6, c7, c8⟩ := held9 x3.out; have v3 := Lib.hid (ri_below v2.out q3); clear q3))
            go_ret
            exact ⟨ret_bool (by rw [← hR.out]; simp; omega), b3.out⟩
  · have t1 : kind < 0 ∨ (¬ kind < 0 ∧ 4 < kind) := by omega
    rcases t1 with t1 | ⟨t1, t2⟩
    · skip
      go_enter Tryz.func21, Tryz.ntmps21
      go_upto_region 1 with (fail)
      rw [hW.out]
      obtain ⟨c0, c1, c2, c3, c4, c5, c6, c7, c8⟩ := held9 hx.out
      go_wp2_with fail
      go_ret
      exact ⟨ret_bool (by rw [← hR.out]; simp; omega), hb.out⟩
    · skip
      go_enter Tryz.func21, Tryz.ntmps21
      go_upto_region 1 with (fail)
      rw [hW.out]
      obtain ⟨c0, c1, c2, c3, c4, c5, c6, c7, c8⟩ := held9 hx.out
      go_wp2_with fail
      go_ret
      exact ⟨ret_bool (by rw [← hR.out]; simp; omega), hb.out⟩
end Go.Proofs.YtiidjkhkcckmkaaGreatDoor
