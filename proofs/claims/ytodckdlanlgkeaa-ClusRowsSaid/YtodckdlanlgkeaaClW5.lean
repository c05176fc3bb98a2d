/- Layer 11: the walk of ClusRows. -/
import Derived.Test.YtodckdlanlgkeaaClW2
import Derived.Test.YtodckdlanlgkeaaClW6
import Derived.Test.YtodckdlanlgkeaaSaT
import Derived.Test.YtodckdlanlgkeaaBasP
namespace Go.Proofs.Ytodckdlanlgkeaa
set_option linter.unusedSimpArgs false
set_option linter.unusedVariables false
open Go.RowKit Go.Lib

theorem same_selfT2 (v1 v2 : Value) (l : List Bool) (w : World) (hl : l.length ≤ 100000) (h1 : RT w v1 l) (h2 : RT w v2 l) :
    Calls Try.prog 18 #[v1, v2] w fun e w' => e = .returned (.bool true) ∧ Below w.heap.size w w' := by
  refine (same_anyT v1 v2 l l w hl h1 h2).mono ?_
  rintro e w' ⟨rfl, n, rfl⟩
  exact ⟨by rw [show sameBT l l = true from decide_eq_true rfl], drewN_below w n⟩
theorem rt_drewT {w : World} {v : Value} {l : List Bool} (h : RT w v l) : RT w.drew v l := h

theorem kindA (x : Int) (h0 : 0 ≤ x) (h1 : x < 26) : Prp.gcbI (97 + x) = 0 := by
  have h : ∀ k : Fin 26, Prp.gcbI (97 + (k.1 : Int)) = 0 := by decide +kernel
  have := h ⟨x.toNat, by omega⟩
  rwa [show ((x.toNat : Nat) : Int) = x by omega] at this

set_option maxHeartbeats 12800000 in
set_option maxRecDepth 100000 in
theorem clusRows_walk (hS : SaneC11) (hE : EndsC11) (hN : NextC11) (hC : CutsC11) (va : Value) (a : List Int) (c : Int) (vb : Value) (b : List Int) (w : World) (hva : RI w va a ∧ WfI a) (_ : -9223372036854775808 ≤ c ∧ c ≤ 9223372036854775807) (hvb : RI w vb b ∧ WfI b) :
    Calls Try.prog 7 #[va, .int .i64 c, vb] w fun e w' => e = .returned (.bool true) ∧ Below w.heap.size w w' := by
  have hawake := Lib.hid (awake11 hS hE hN hC)
  obtain ⟨hra, _⟩ := hva
  obtain ⟨hrb, _⟩ := hvb
  obtain ⟨pa, ca, rfl⟩ := ri_form hra
  obtain ⟨pb, cb, rfl⟩ := ri_form hrb
  obtain ⟨i0, hi, hz0, hz1, hz2⟩ := info_parts info_i
  replace hra := Lib.hid hra
  replace hrb := Lib.hid hrb
  by_cases hl : a.length ≤ 100 ∧ b.length ≤ 100
  · obtain ⟨hla, hlb⟩ := hl
    have hl1 : decide (100 < a.length) = false := decide_eq_false (by omega)
    have hl2 : decide (100 < b.length) = false := decide_eq_false (by omega)
    have hl3 : ¬ (100 : Int) < (a.length : Int) := by omega
    have hl4 : ¬ (100 : Int) < (b.length : Int) := by omega
    obtain ⟨y, hy, hy0, hy1⟩ := mod_of c 26 (by omega)
    have hrows := Clu.rows_cut (kindA y hy0 hy1) a b
    have hc1 := fun V W h => cuts_of11 hC (v := V) (l := a ++ (97 + y) :: b) (w := W) rfl (by simp; omega) h
    have hc2 := fun V W h => cuts_of11 hC (v := V) (l := (97 + y) :: b) (w := W) rfl (by simp; omega) h
    have n1 := Clu.cuts_len Clu.zero (a ++ (97 + y) :: b)
    have n2 := Clu.cuts_len Clu.zero ((97 + y) :: b)
    obtain ⟨t, ht⟩ : ∃ t, (97 + y) :: b = t := ⟨_, rfl⟩
    have htl : t.length = b.length + 1 := by rw [← ht]; rfl
    simp only [ht] at hrows hc1 hc2 n1 n2
    obtain ⟨all, hall⟩ : ∃ all, a ++ t = all := ⟨_, rfl⟩
    have hal : all.length = a.length + t.length := by rw [← hall]; simp
    simp only [hall] at hrows hc1 n1
    obtain ⟨P, hP⟩ : ∃ P, Clu.cutsI Clu.zero all = P := ⟨_, rfl⟩
    obtain ⟨Q, hQ⟩ : ∃ P, Clu.cutsI Clu.zero t = P := ⟨_, rfl⟩
    rw [hP] at hrows hc1 n1
    rw [hQ] at hrows hc2 n2
    obtain ⟨N, hNN⟩ : ∃ N, P.length = N := ⟨_, rfl⟩
    have hNa : a.length + 1 ≤ N := by omega
    have hNt : N ≤ 300 := by omega
    have htl2 : t.length ≤ 101 := by omega
    have htl3 : 1 ≤ t.length := by omega
    have hne : ((N : Int) != (a.length : Int) + (t.length : Int)) = false := by
      have : (N : Int) = (a.length : Int) + (t.length : Int) := by omega
      rw [this]; simp
    obtain ⟨D, hD⟩ : ∃ D, Q.drop 1 = D := ⟨_, rfl⟩
    rw [hD] at hrows
    have hDl : D.length ≤ 300 := by rw [← hD, List.length_drop]; omega
    replace ht := Lib.hid (show [97 + y] ++ b = t from ht)
    replace hall := Lib.hid hall
    replace hc1 := Lib.hid hc1
    replace hc2 := Lib.hid hc2
    replace hrows := Lib.hid hrows
    replace hD := Lib.hid hD
    replace hNN := Lib.hid hNN
    replace n2 := Lib.hid n2
    have hsrca := Lib.hid (fun W (h : Below w.heap.size w W) => ri_src (ri_below hra.out h))
    have hsrcb := Lib.hid (fun W (h : Below w.heap.size w W) => ri_src (ri_below hrb.out h))
    clear hS hE hN hC n1 hP hQ htl hal
    go_enter Try.func7, Try.ntmps7
    go_wp2_with fail
    refine (hawake.out w).mono ?_
    rintro e w1 ⟨rfl, hb1⟩
    have o1 := Lib.hid (ownI_lit w.heap.size w1 [97 + y] #[.int .i64 (97 + y)] w1.heap.size 1 rfl hb1.size rfl rfl (by unfold maxLen; omega))
    have b1 : Hid (Below w.heap.size w (w1.alloc (.cells #[.int .i64 (97 + y)] 3))) := Lib.hid (hb1.alloc hb1.size _)
    have s1 := Lib.hid (hsrcb.out _ b1.out)
    clear hb1
    go_upto_region 6 with (at_builtin; refine wpList_append_src rfl _ _ 24 rfl w.heap.size 3 i0 (.int .i64 0) 8 Try.underlying24 hi hz0 hz1 hz2 rfl _ _ _ rfl o1.out _ _ rfl s1.out (oneCellI _) (by unfold maxLen; first | (simp; done) | (simp; omega)) (by first | (simp; done) | (simp; omega)) b1.out.size ?_; intro v2 w2 ho2 hg2; have o2 := Lib.hid (ownI_of_row (l := [97 + y] ++ b) ho2 (by (try simp); try omega) (by (try simp); try omega)); have b2 := Lib.hid (below_row b1.out hg2 b1.out.size o1.out (Nat.le_refl _)); clear ho2 hg2)
    have h2 := Lib.hid (ri_cast (ri_of_own o2.out) ht.out)
    obtain ⟨p2, c2, rfl⟩ := ri_form h2.out
    have e2 := Lib.hid (ownI_lit w2.heap.size w2 [] #[] w2.heap.size 0 rfl (Nat.le_refl _) rfl rfl (by unfold maxLen; omega))
    have g2 := Lib.hid (below_new w2 (.cells #[] 3))
    have s2 := Lib.hid (hsrca.out _ (below_on b2.out g2.out))
    clear o1 s1 o2 b1
    go_upto_region 7 with (at_builtin; refine wpList_append_src rfl _ _ 24 rfl w2.heap.size 3 i0 (.int .i64 0) 8 Try.underlying24 hi hz0 hz1 hz2 rfl _ _ _ rfl e2.out _ _ rfl s2.out (oneCellI _) (by unfold maxLen; first | (simp; done) | (simp; omega)) (by first | (simp; done) | (simp; omega)) g2.out.size ?_; intro v3 w3 ho3 hg3; have o3 := Lib.hid (ownI_of_row (l := a) ho3 (by (try simp); try omega) (by (try simp); try omega)); have b3 := Lib.hid (below_row g2.out hg3 g2.out.size e2.out (Nat.le_refl _)); clear ho3 hg3)
    have s3 := Lib.hid (ri_src (ri_below h2.out b3.out))
    clear e2 s2 g2
    go_wp2_with (at_builtin; refine wpList_append_src rfl _ _ 24 rfl w2.heap.size 3 i0 (.int .i64 0) 8 Try.underlying24 hi hz0 hz1 hz2 rfl _ _ _ rfl o3.out _ _ rfl s3.out (oneCellI _) (by unfold maxLen; first | (simp; done) | (simp; omega)) (by first | (simp; done) | (simp; omega)) b3.out.size ?_; intro v4 w4 ho4 hg4; have o4 := Lib.hid (ownI_of_row (l := a ++ t) ho4 (by (try simp); try omega) (by (try simp); try omega)); have b4 := Lib.hid (below_row b3.out hg4 b3.out.size o3.out (Nat.le_refl _)); clear ho4 hg4)
    have h4 := Lib.hid (ri_cast (ri_of_own o4.out) hall.out)
    have b4w := Lib.hid (below_on b2.out b4.out)
    have h2w := Lib.hid (ri_below h2.out b4.out)
    clear o3 s3 b3 o4
    refine (hc1.out _ _ h4.out).mono ?_
    rintro e w5 ⟨v5, rfl, tp, q5⟩
    obtain ⟨p5, c5, rfl⟩ := rt_form tp
    have tpc := (rt_cap tp).2.1
    rw [hNN.out] at tp tpc ⊢
    replace tp := Lib.hid tp
    replace h2w := Lib.hid (ri_below h2w.out q5)
    have b5 := Lib.hid (below_on b4w.out q5)
    clear q5 b4w h2 b4 h4 b2
    go_wp2_with fail
    refine (hc2.out _ _ h2w.out).mono ?_
    rintro e w6 ⟨v6, rfl, tq, q6⟩
    obtain ⟨p6, c6, rfl⟩ := rt_form tq
    have tqc := (rt_cap tq).2.1
    rw [n2.out] at tq tqc ⊢
    replace tp := rt_below tp.out q6
    have b6 := Lib.hid (below_on b5.out q6)
    clear q6 b5 h2w
    have tq0 := tq
    rw [← n2.out] at tq0
    have tp0 := tp
    rw [← hNN.out] at tp0
    obtain ⟨bp, op, rfl, _, _⟩ := rt_at tp0 (by have := hNN.out; omega)
    obtain ⟨bq, oq, rfl, _, _⟩ := rt_at tq0 (by have := n2.out; omega)
    clear tp0 tq0
    have hPA : a.length + 1 < c5 → RT w6 (.slice (some ⟨bp, op + (a.length + 1), none⟩) (N - (a.length + 1)) (c5 - (a.length + 1))) D := fun _ => by
      have h := rt_from tp (a.length + 1) (by have := hNN.out; omega) (by have := hNN.out; omega)
      rwa [hrows.out] at h
    have hPB : c5 = a.length + 1 → RT w6 (.slice (some ⟨bp, op, none⟩) 0 0) D := fun h => by
      have hD0 : D = [] := List.eq_nil_of_length_eq_zero (by rw [← hrows.out, List.length_drop]; have := hNN.out; omega)
      rw [hD0]
      exact rt_none w6 _ _ (fun h => by cases h)
    have hQA : 1 < c6 → RT w6 (.slice (some ⟨bq, oq + 1, none⟩) (t.length - 1) (c6 - 1)) D := fun _ => by
      have h := rt_from tq 1 (by have := n2.out; omega) (by have := n2.out; omega)
      rwa [hD.out] at h
    have hQB : c6 = 1 → RT w6 (.slice (some ⟨bq, oq, none⟩) 0 0) D := fun h => by
      have hD0 : D = [] := List.eq_nil_of_length_eq_zero (by rw [← hD.out, List.length_drop]; have := n2.out; omega)
      rw [hD0]
      exact rt_none w6 _ _ (fun h => by cases h)
    replace tp := Lib.hid tp
    replace tq := Lib.hid tq
    have hwr : IntKind.i64.wrap ((a.length : Int) + 1) = (a.length : Int) + 1 := wraps_i64_63 _ (by omega) (by omega)
    have hwn : ((a.length : Int) + 1).toNat = a.length + 1 := by omega
    have hw0 : 0 ≤ (a.length : Int) + 1 := by omega
    have hwN : (a.length : Int) + 1 ≤ (N : Int) := by omega
    have htl4 : (1 : Int) ≤ (t.length : Int) := by omega
    rcases Nat.lt_or_ge (a.length + 1) c5 with hp5 | hp5 <;> rcases Nat.lt_or_ge 1 c6 with hq6 | hq6
    · have hp6 : ¬ c5 = a.length + 1 := by omega
      have hq7 : ¬ c6 = 1 := by omega
      go_upto_region 12 with (fail)
      refine wp_region_held_drew (S := fun _ => True) (by kernel_rfl) (trivial) (fun hS => ?_)
      refine' wpAnyH_take (i := 0) (oi := ⟨_, _, _, _, _, _⟩) (v := _) rfl (by kernel_rfl) (by kernel_rfl) (by kernel_rfl) (fun _ _ _ h => h) (Or.inl ⟨by rfl, ?hyAA0⟩) hS ?restAA0
      case hyAA0 => (intro wz hSw; (try dsimp only at hSw); go_simp; try with_reducible rfl)
      try simp only [Act.put, List.setIfInBounds_toArray, List.set_cons_zero, List.set_cons_succ]
      refine' wpAnyH_take (i := 1) (oi := ⟨_, _, _, _, _, _⟩) (v := _) rfl (by kernel_rfl) (by kernel_rfl) (by kernel_rfl) (fun _ _ _ h => h) (Or.inl ⟨by rfl, ?hyAA1⟩) hS ?restAA1
      case hyAA1 => (intro wz hSw; (try dsimp only at hSw); go_simp; try with_reducible rfl)
      try simp only [Act.put, List.setIfInBounds_toArray, List.set_cons_zero, List.set_cons_succ]
      refine' wpAnyH_take (i := 2) (oi := ⟨_, _, _, _, _, _⟩) (v := _) rfl (by kernel_rfl) (by kernel_rfl) (by kernel_rfl) (fun _ _ _ h => h) (Or.inl ⟨by rfl, ?hyAA2⟩) hS ?restAA2
      case hyAA2 => (intro wz hSw; (try dsimp only at hSw); go_simp; try with_reducible rfl)
      try simp only [Act.put, List.setIfInBounds_toArray, List.set_cons_zero, List.set_cons_succ]
      refine' wpAnyH_take (i := 3) (oi := ⟨_, _, _, _, _, _⟩) (v := _) rfl (by kernel_rfl) (by kernel_rfl) (by kernel_rfl) (fun _ _ _ h => h) (Or.inl ⟨by rfl, ?hyAA3⟩) hS ?restAA3
      case hyAA3 => (intro wz hSw; (try dsimp only at hSw); go_simp; try with_reducible rfl)
      try simp only [Act.put, List.setIfInBounds_toArray, List.set_cons_zero, List.set_cons_succ]
      refine' wpAnyH_take (i := 4) (oi := ⟨_, _, _, _, _, _⟩) (v := _) rfl (by kernel_rfl) (by kernel_rfl) (by kernel_rfl) (fun _ _ _ h => h) (Or.inl ⟨by rfl, ?hyAA4⟩) hS ?restAA4
      case hyAA4 => (intro wz hSw; (try dsimp only at hSw); go_simp; try with_reducible rfl)
      try simp only [Act.put, List.setIfInBounds_toArray, List.set_cons_zero, List.set_cons_succ]
      refine' wpAnyH_take (i := 5) (oi := ⟨_, _, _, _, _, _⟩) (v := _) rfl (by kernel_rfl) (by kernel_rfl) (by kernel_rfl) (fun _ _ _ h => h) (Or.inl ⟨by rfl, ?hyAA5⟩) hS ?restAA5
      case hyAA5 => (intro wz hSw; (try dsimp only at hSw); go_simp; try with_reducible rfl)
      try simp only [Act.put, List.setIfInBounds_toArray, List.set_cons_zero, List.set_cons_succ]
      refine' wpAnyH_take (i := 6) (oi := ⟨_, _, _, _, _, _⟩) (v := _) rfl (by kernel_rfl) (by kernel_rfl) (by kernel_rfl) (fun _ _ _ h => h) (Or.inl ⟨by rfl, ?hyAA6⟩) hS ?restAA6
      case hyAA6 => (intro wz hSw; (try dsimp only at hSw); go_simp; try with_reducible rfl)
      try simp only [Act.put, List.setIfInBounds_toArray, List.set_cons_zero, List.set_cons_succ]
      refine' wpAnyH_take (i := 7) (oi := ⟨_, _, _, _, _, _⟩) (v := _) rfl (by kernel_rfl) (by kernel_rfl) (by kernel_rfl) (fun _ _ _ h => h) (Or.inl ⟨by rfl, ?hyAA7⟩) hS ?restAA7
      case hyAA7 => (intro wz hSw; (try dsimp only at hSw); go_simp; try with_reducible rfl)
      try simp only [Act.put, List.setIfInBounds_toArray, List.set_cons_zero, List.set_cons_succ]
      refine' wpAnyH_take (i := 8) (oi := ⟨_, _, _, _, _, _⟩) (v := _) rfl (by kernel_rfl) (by kernel_rfl) (by kernel_rfl) (fun _ _ _ h => h) (Or.inl ⟨by rfl, ?hyAA8⟩) hS ?restAA8
      case hyAA8 => (intro wz hSw; (try dsimp only at hSw); go_simp; try with_reducible rfl)
      try simp only [Act.put, List.setIfInBounds_toArray, List.set_cons_zero, List.set_cons_succ]
      refine wpAnyH_ready (rs := [9]) (by kernel_rfl) (by simp) (AllReadyH.cons rfl (fun K hK => ?_) AllReadyH.nil)
      go_simp
      go_at_call 18
      refine (same_selfT2 _ _ D _ (by omega) (rt_drewT (hPA hp5)) (rt_drewT (hQA hq6))).mono ?_
      rintro e w_9 ⟨rfl, q_9⟩
      go_wp2_with fail
      refine hK.out _ _ (trivial) (fun hSn => ?_)
      clear hS
      have hS := hSn
      clear hSn
      clear hK K
      try simp only [Act.put, List.setIfInBounds_toArray, List.set_cons_zero, List.set_cons_succ]
      refine' wpAnyH_take (i := 10) (oi := ⟨_, _, _, _, _, _⟩) (v := _) rfl (by kernel_rfl) (by kernel_rfl) (by kernel_rfl) (fun _ _ _ h => h) (Or.inl ⟨by rfl, ?hyAA10⟩) hS ?restAA10
      case hyAA10 => (intro wz hSw; (try dsimp only at hSw); go_simp; try with_reducible rfl)
      try simp only [Act.put, List.setIfInBounds_toArray, List.set_cons_zero, List.set_cons_succ]
      refine' wpAnyH_take (i := 11) (oi := ⟨_, _, _, _, _, _⟩) (v := _) rfl (by kernel_rfl) (by kernel_rfl) (by kernel_rfl) (fun _ _ _ h => h) (Or.inl ⟨by rfl, ?hyAA11⟩) hS ?restAA11
      case hyAA11 => (intro wz hSw; (try dsimp only at hSw); go_simp; try with_reducible rfl)
      try simp only [Act.put, List.setIfInBounds_toArray, List.set_cons_zero, List.set_cons_succ]
      refine wpAnyH_done (by kernel_rfl) ?_ _
      have bend := below_on b6.out ((Below.refl _ _).drew.trans q_9)
      clear hS
      go_simp
      go_wp2_with fail
      go_ret
      exact ⟨rfl, bend⟩
    · have hp6 : ¬ c5 = a.length + 1 := by omega
      have hq7 : c6 = 1 := by omega
      have hQ0 := hQB hq7
      clear hQA hQB
      subst hq7
      go_upto_region 12 with (fail)
      refine wp_region_held_drew (S := fun _ => True) (by kernel_rfl) (trivial) (fun hS => ?_)
      refine' wpAnyH_take (i := 0) (oi := ⟨_, _, _, _, _, _⟩) (v := _) rfl (by kernel_rfl) (by kernel_rfl) (by kernel_rfl) (fun _ _ _ h => h) (Or.inl ⟨by rfl, ?hyAB0⟩) hS ?restAB0
      case hyAB0 => (intro wz hSw; (try dsimp only at hSw); go_simp; try with_reducible rfl)
      try simp only [Act.put, List.setIfInBounds_toArray, List.set_cons_zero, List.set_cons_succ]
      refine' wpAnyH_take (i := 1) (oi := ⟨_, _, _, _, _, _⟩) (v := _) rfl (by kernel_rfl) (by kernel_rfl) (by kernel_rfl) (fun _ _ _ h => h) (Or.inl ⟨by rfl, ?hyAB1⟩) hS ?restAB1
      case hyAB1 => (intro wz hSw; (try dsimp only at hSw); go_simp; try with_reducible rfl)
      try simp only [Act.put, List.setIfInBounds_toArray, List.set_cons_zero, List.set_cons_succ]
      refine' wpAnyH_take (i := 2) (oi := ⟨_, _, _, _, _, _⟩) (v := _) rfl (by kernel_rfl) (by kernel_rfl) (by kernel_rfl) (fun _ _ _ h => h) (Or.inl ⟨by rfl, ?hyAB2⟩) hS ?restAB2
      case hyAB2 => (intro wz hSw; (try dsimp only at hSw); go_simp; try with_reducible rfl)
      try simp only [Act.put, List.setIfInBounds_toArray, List.set_cons_zero, List.set_cons_succ]
      refine' wpAnyH_take (i := 3) (oi := ⟨_, _, _, _, _, _⟩) (v := _) rfl (by kernel_rfl) (by kernel_rfl) (by kernel_rfl) (fun _ _ _ h => h) (Or.inl ⟨by rfl, ?hyAB3⟩) hS ?restAB3
      case hyAB3 => (intro wz hSw; (try dsimp only at hSw); go_simp; try with_reducible rfl)
      try simp only [Act.put, List.setIfInBounds_toArray, List.set_cons_zero, List.set_cons_succ]
      refine' wpAnyH_take (i := 4) (oi := ⟨_, _, _, _, _, _⟩) (v := _) rfl (by kernel_rfl) (by kernel_rfl) (by kernel_rfl) (fun _ _ _ h => h) (Or.inl ⟨by rfl, ?hyAB4⟩) hS ?restAB4
      case hyAB4 => (intro wz hSw; (try dsimp only at hSw); go_simp; try with_reducible rfl)
      try simp only [Act.put, List.setIfInBounds_toArray, List.set_cons_zero, List.set_cons_succ]
      refine' wpAnyH_take (i := 5) (oi := ⟨_, _, _, _, _, _⟩) (v := _) rfl (by kernel_rfl) (by kernel_rfl) (by kernel_rfl) (fun _ _ _ h => h) (Or.inl ⟨by rfl, ?hyAB5⟩) hS ?restAB5
      case hyAB5 => (intro wz hSw; (try dsimp only at hSw); go_simp; try with_reducible rfl)
      try simp only [Act.put, List.setIfInBounds_toArray, List.set_cons_zero, List.set_cons_succ]
      refine' wpAnyH_take (i := 6) (oi := ⟨_, _, _, _, _, _⟩) (v := _) rfl (by kernel_rfl) (by kernel_rfl) (by kernel_rfl) (fun _ _ _ h => h) (Or.inl ⟨by rfl, ?hyAB6⟩) hS ?restAB6
      case hyAB6 => (intro wz hSw; (try dsimp only at hSw); go_simp; try with_reducible rfl)
      try simp only [Act.put, List.setIfInBounds_toArray, List.set_cons_zero, List.set_cons_succ]
      refine' wpAnyH_take (i := 7) (oi := ⟨_, _, _, _, _, _⟩) (v := _) rfl (by kernel_rfl) (by kernel_rfl) (by kernel_rfl) (fun _ _ _ h => h) (Or.inl ⟨by rfl, ?hyAB7⟩) hS ?restAB7
      case hyAB7 => (intro wz hSw; (try dsimp only at hSw); go_simp; try with_reducible rfl)
      try simp only [Act.put, List.setIfInBounds_toArray, List.set_cons_zero, List.set_cons_succ]
      refine' wpAnyH_take (i := 8) (oi := ⟨_, _, _, _, _, _⟩) (v := _) rfl (by kernel_rfl) (by kernel_rfl) (by kernel_rfl) (fun _ _ _ h => h) (Or.inl ⟨by rfl, ?hyAB8⟩) hS ?restAB8
      case hyAB8 => (intro wz hSw; (try dsimp only at hSw); go_simp; try with_reducible rfl)
      try simp only [Act.put, List.setIfInBounds_toArray, List.set_cons_zero, List.set_cons_succ]
      refine wpAnyH_ready (rs := [9]) (by kernel_rfl) (by simp) (AllReadyH.cons rfl (fun K hK => ?_) AllReadyH.nil)
      go_simp
      go_at_call 18
      refine (same_selfT2 _ _ D _ (by omega) (rt_drewT (hPA hp5)) (rt_drewT (hQ0))).mono ?_
      rintro e w_9 ⟨rfl, q_9⟩
      go_wp2_with fail
      refine hK.out _ _ (trivial) (fun hSn => ?_)
      clear hS
      have hS := hSn
      clear hSn
      clear hK K
      try simp only [Act.put, List.setIfInBounds_toArray, List.set_cons_zero, List.set_cons_succ]
      refine' wpAnyH_take (i := 10) (oi := ⟨_, _, _, _, _, _⟩) (v := _) rfl (by kernel_rfl) (by kernel_rfl) (by kernel_rfl) (fun _ _ _ h => h) (Or.inl ⟨by rfl, ?hyAB10⟩) hS ?restAB10
      case hyAB10 => (intro wz hSw; (try dsimp only at hSw); go_simp; try with_reducible rfl)
      try simp only [Act.put, List.setIfInBounds_toArray, List.set_cons_zero, List.set_cons_succ]
      refine' wpAnyH_take (i := 11) (oi := ⟨_, _, _, _, _, _⟩) (v := _) rfl (by kernel_rfl) (by kernel_rfl) (by kernel_rfl) (fun _ _ _ h => h) (Or.inl ⟨by rfl, ?hyAB11⟩) hS ?restAB11
      case hyAB11 => (intro wz hSw; (try dsimp only at hSw); go_simp; try with_reducible rfl)
      try simp only [Act.put, List.setIfInBounds_toArray, List.set_cons_zero, List.set_cons_succ]
      refine wpAnyH_done (by kernel_rfl) ?_ _
      have bend := below_on b6.out ((Below.refl _ _).drew.trans q_9)
      clear hS
      go_simp
      go_wp2_with fail
      go_ret
      exact ⟨rfl, bend⟩
    · have hp6 : c5 = a.length + 1 := by omega
      have hP0 := hPB hp6
      clear hPA hPB
      subst hp6
      have hq7 : ¬ c6 = 1 := by omega
      go_upto_region 12 with (fail)
      refine wp_region_held_drew (S := fun _ => True) (by kernel_rfl) (trivial) (fun hS => ?_)
      refine' wpAnyH_take (i := 0) (oi := ⟨_, _, _, _, _, _⟩) (v := _) rfl (by kernel_rfl) (by kernel_rfl) (by kernel_rfl) (fun _ _ _ h => h) (Or.inl ⟨by rfl, ?hyBA0⟩) hS ?restBA0
      case hyBA0 => (intro wz hSw; (try dsimp only at hSw); go_simp; try with_reducible rfl)
      try simp only [Act.put, List.setIfInBounds_toArray, List.set_cons_zero, List.set_cons_succ]
      refine' wpAnyH_take (i := 1) (oi := ⟨_, _, _, _, _, _⟩) (v := _) rfl (by kernel_rfl) (by kernel_rfl) (by kernel_rfl) (fun _ _ _ h => h) (Or.inl ⟨by rfl, ?hyBA1⟩) hS ?restBA1
      case hyBA1 => (intro wz hSw; (try dsimp only at hSw); go_simp; try with_reducible rfl)
      try simp only [Act.put, List.setIfInBounds_toArray, List.set_cons_zero, List.set_cons_succ]
      refine' wpAnyH_take (i := 2) (oi := ⟨_, _, _, _, _, _⟩) (v := _) rfl (by kernel_rfl) (by kernel_rfl) (by kernel_rfl) (fun _ _ _ h => h) (Or.inl ⟨by rfl, ?hyBA2⟩) hS ?restBA2
      case hyBA2 => (intro wz hSw; (try dsimp only at hSw); go_simp; try with_reducible rfl)
      try simp only [Act.put, List.setIfInBounds_toArray, List.set_cons_zero, List.set_cons_succ]
      refine' wpAnyH_take (i := 3) (oi := ⟨_, _, _, _, _, _⟩) (v := _) rfl (by kernel_rfl) (by kernel_rfl) (by kernel_rfl) (fun _ _ _ h => h) (Or.inl ⟨by rfl, ?hyBA3⟩) hS ?restBA3
      case hyBA3 => (intro wz hSw; (try dsimp only at hSw); go_simp; try with_reducible rfl)
      try simp only [Act.put, List.setIfInBounds_toArray, List.set_cons_zero, List.set_cons_succ]
      refine' wpAnyH_take (i := 4) (oi := ⟨_, _, _, _, _, _⟩) (v := _) rfl (by kernel_rfl) (by kernel_rfl) (by kernel_rfl) (fun _ _ _ h => h) (Or.inl ⟨by rfl, ?hyBA4⟩) hS ?restBA4
      case hyBA4 => (intro wz hSw; (try dsimp only at hSw); go_simp; try with_reducible rfl)
      try simp only [Act.put, List.setIfInBounds_toArray, List.set_cons_zero, List.set_cons_succ]
      refine' wpAnyH_take (i := 5) (oi := ⟨_, _, _, _, _, _⟩) (v := _) rfl (by kernel_rfl) (by kernel_rfl) (by kernel_rfl) (fun _ _ _ h => h) (Or.inl ⟨by rfl, ?hyBA5⟩) hS ?restBA5
      case hyBA5 => (intro wz hSw; (try dsimp only at hSw); go_simp; try with_reducible rfl)
      try simp only [Act.put, List.setIfInBounds_toArray, List.set_cons_zero, List.set_cons_succ]
      refine' wpAnyH_take (i := 6) (oi := ⟨_, _, _, _, _, _⟩) (v := _) rfl (by kernel_rfl) (by kernel_rfl) (by kernel_rfl) (fun _ _ _ h => h) (Or.inl ⟨by rfl, ?hyBA6⟩) hS ?restBA6
      case hyBA6 => (intro wz hSw; (try dsimp only at hSw); go_simp; try with_reducible rfl)
      try simp only [Act.put, List.setIfInBounds_toArray, List.set_cons_zero, List.set_cons_succ]
      refine' wpAnyH_take (i := 7) (oi := ⟨_, _, _, _, _, _⟩) (v := _) rfl (by kernel_rfl) (by kernel_rfl) (by kernel_rfl) (fun _ _ _ h => h) (Or.inl ⟨by rfl, ?hyBA7⟩) hS ?restBA7
      case hyBA7 => (intro wz hSw; (try dsimp only at hSw); go_simp; try with_reducible rfl)
      try simp only [Act.put, List.setIfInBounds_toArray, List.set_cons_zero, List.set_cons_succ]
      refine' wpAnyH_take (i := 8) (oi := ⟨_, _, _, _, _, _⟩) (v := _) rfl (by kernel_rfl) (by kernel_rfl) (by kernel_rfl) (fun _ _ _ h => h) (Or.inl ⟨by rfl, ?hyBA8⟩) hS ?restBA8
      case hyBA8 => (intro wz hSw; (try dsimp only at hSw); go_simp; try with_reducible rfl)
      try simp only [Act.put, List.setIfInBounds_toArray, List.set_cons_zero, List.set_cons_succ]
      refine wpAnyH_ready (rs := [9]) (by kernel_rfl) (by simp) (AllReadyH.cons rfl (fun K hK => ?_) AllReadyH.nil)
      go_simp
      go_at_call 18
      refine (same_selfT2 _ _ D _ (by omega) (rt_drewT (hP0)) (rt_drewT (hQA hq6))).mono ?_
      rintro e w_9 ⟨rfl, q_9⟩
      go_wp2_with fail
      refine hK.out _ _ (trivial) (fun hSn => ?_)
      clear hS
      have hS := hSn
      clear hSn
      clear hK K
      try simp only [Act.put, List.setIfInBounds_toArray, List.set_cons_zero, List.set_cons_succ]
      refine' wpAnyH_take (i := 10) (oi := ⟨_, _, _, _, _, _⟩) (v := _) rfl (by kernel_rfl) (by kernel_rfl) (by kernel_rfl) (fun _ _ _ h => h) (Or.inl ⟨by rfl, ?hyBA10⟩) hS ?restBA10
      case hyBA10 => (intro wz hSw; (try dsimp only at hSw); go_simp; try with_reducible rfl)
      try simp only [Act.put, List.setIfInBounds_toArray, List.set_cons_zero, List.set_cons_succ]
      refine' wpAnyH_take (i := 11) (oi := ⟨_, _, _, _, _, _⟩) (v := _) rfl (by kernel_rfl) (by kernel_rfl) (by kernel_rfl) (fun _ _ _ h => h) (Or.inl ⟨by rfl, ?hyBA11⟩) hS ?restBA11
      case hyBA11 => (intro wz hSw; (try dsimp only at hSw); go_simp; try with_reducible rfl)
      try simp only [Act.put, List.setIfInBounds_toArray, List.set_cons_zero, List.set_cons_succ]
      refine wpAnyH_done (by kernel_rfl) ?_ _
      have bend := below_on b6.out ((Below.refl _ _).drew.trans q_9)
      clear hS
      go_simp
      go_wp2_with fail
      go_ret
      exact ⟨rfl, bend⟩
    · have hp6 : c5 = a.length + 1 := by omega
      have hP0 := hPB hp6
      clear hPA hPB
      subst hp6
      have hq7 : c6 = 1 := by omega
      have hQ0 := hQB hq7
      clear hQA hQB
      subst hq7
      go_upto_region 12 with (fail)
      refine wp_region_held_drew (S := fun _ => True) (by kernel_rfl) (trivial) (fun hS => ?_)
      refine' wpAnyH_take (i := 0) (oi := ⟨_, _, _, _, _, _⟩) (v := _) rfl (by kernel_rfl) (by kernel_rfl) (by kernel_rfl) (fun _ _ _ h => h) (Or.inl ⟨by rfl, ?hyBB0⟩) hS ?restBB0
      case hyBB0 => (intro wz hSw; (try dsimp only at hSw); go_simp; try with_reducible rfl)
      try simp only [Act.put, List.setIfInBounds_toArray, List.set_cons_zero, List.set_cons_succ]
      refine' wpAnyH_take (i := 1) (oi := ⟨_, _, _, _, _, _⟩) (v := _) rfl (by kernel_rfl) (by kernel_rfl) (by kernel_rfl) (fun _ _ _ h => h) (Or.inl ⟨by rfl, ?hyBB1⟩) hS ?restBB1
      case hyBB1 => (intro wz hSw; (try dsimp only at hSw); go_simp; try with_reducible rfl)
      try simp only [Act.put, List.setIfInBounds_toArray, List.set_cons_zero, List.set_cons_succ]
      refine' wpAnyH_take (i := 2) (oi := ⟨_, _, _, _, _, _⟩) (v := _) rfl (by kernel_rfl) (by kernel_rfl) (by kernel_rfl) (fun _ _ _ h => h) (Or.inl ⟨by rfl, ?hyBB2⟩) hS ?restBB2
      case hyBB2 => (intro wz hSw; (try dsimp only at hSw); go_simp; try with_reducible rfl)
      try simp only [Act.put, List.setIfInBounds_toArray, List.set_cons_zero, List.set_cons_succ]
      refine' wpAnyH_take (i := 3) (oi := ⟨_, _, _, _, _, _⟩) (v := _) rfl (by kernel_rfl) (by kernel_rfl) (by kernel_rfl) (fun _ _ _ h => h) (Or.inl ⟨by rfl, ?hyBB3⟩) hS ?restBB3
      case hyBB3 => (intro wz hSw; (try dsimp only at hSw); go_simp; try with_reducible rfl)
      try simp only [Act.put, List.setIfInBounds_toArray, List.set_cons_zero, List.set_cons_succ]
      refine' wpAnyH_take (i := 4) (oi := ⟨_, _, _, _, _, _⟩) (v := _) rfl (by kernel_rfl) (by kernel_rfl) (by kernel_rfl) (fun _ _ _ h => h) (Or.inl ⟨by rfl, ?hyBB4⟩) hS ?restBB4
      case hyBB4 => (intro wz hSw; (try dsimp only at hSw); go_simp; try with_reducible rfl)
      try simp only [Act.put, List.setIfInBounds_toArray, List.set_cons_zero, List.set_cons_succ]
      refine' wpAnyH_take (i := 5) (oi := ⟨_, _, _, _, _, _⟩) (v := _) rfl (by kernel_rfl) (by kernel_rfl) (by kernel_rfl) (fun _ _ _ h => h) (Or.inl ⟨by rfl, ?hyBB5⟩) hS ?restBB5
      case hyBB5 => (intro wz hSw; (try dsimp only at hSw); go_simp; try with_reducible rfl)
      try simp only [Act.put, List.setIfInBounds_toArray, List.set_cons_zero, List.set_cons_succ]
      refine' wpAnyH_take (i := 6) (oi := ⟨_, _, _, _, _, _⟩) (v := _) rfl (by kernel_rfl) (by kernel_rfl) (by kernel_rfl) (fun _ _ _ h => h) (Or.inl ⟨by rfl, ?hyBB6⟩) hS ?restBB6
      case hyBB6 => (intro wz hSw; (try dsimp only at hSw); go_simp; try with_reducible rfl)
      try simp only [Act.put, List.setIfInBounds_toArray, List.set_cons_zero, List.set_cons_succ]
      refine' wpAnyH_take (i := 7) (oi := ⟨_, _, _, _, _, _⟩) (v := _) rfl (by kernel_rfl) (by kernel_rfl) (by kernel_rfl) (fun _ _ _ h => h) (Or.inl ⟨by rfl, ?hyBB7⟩) hS ?restBB7
      case hyBB7 => (intro wz hSw; (try dsimp only at hSw); go_simp; try with_reducible rfl)
      try simp only [Act.put, List.setIfInBounds_toArray, List.set_cons_zero, List.set_cons_succ]
      refine' wpAnyH_take (i := 8) (oi := ⟨_, _, _, _, _, _⟩) (v := _) rfl (by kernel_rfl) (by kernel_rfl) (by kernel_rfl) (fun _ _ _ h => h) (Or.inl ⟨by rfl, ?hyBB8⟩) hS ?restBB8
      case hyBB8 => (intro wz hSw; (try dsimp only at hSw); go_simp; try with_reducible rfl)
      try simp only [Act.put, List.setIfInBounds_toArray, List.set_cons_zero, List.set_cons_succ]
      refine wpAnyH_ready (rs := [9]) (by kernel_rfl) (by simp) (AllReadyH.cons rfl (fun K hK => ?_) AllReadyH.nil)
      go_simp
      go_at_call 18
      refine (same_selfT2 _ _ D _ (by omega) (rt_drewT (hP0)) (rt_drewT (hQ0))).mono ?_
      rintro e w_9 ⟨rfl, q_9⟩
      go_wp2_with fail
      refine hK.out _ _ (trivial) (fun hSn => ?_)
      clear hS
      have hS := hSn
      clear hSn
      clear hK K
      try simp only [Act.put, List.setIfInBounds_toArray, List.set_cons_zero, List.set_cons_succ]
      refine' wpAnyH_take (i := 10) (oi := ⟨_, _, _, _, _, _⟩) (v := _) rfl (by kernel_rfl) (by kernel_rfl) (by kernel_rfl) (fun _ _ _ h => h) (Or.inl ⟨by rfl, ?hyBB10⟩) hS ?restBB10
      case hyBB10 => (intro wz hSw; (try dsimp only at hSw); go_simp; try with_reducible rfl)
      try simp only [Act.put, List.setIfInBounds_toArray, List.set_cons_zero, List.set_cons_succ]
      refine' wpAnyH_take (i := 11) (oi := ⟨_, _, _, _, _, _⟩) (v := _) rfl (by kernel_rfl) (by kernel_rfl) (by kernel_rfl) (fun _ _ _ h => h) (Or.inl ⟨by rfl, ?hyBB11⟩) hS ?restBB11
      case hyBB11 => (intro wz hSw; (try dsimp only at hSw); go_simp; try with_reducible rfl)
      try simp only [Act.put, List.setIfInBounds_toArray, List.set_cons_zero, List.set_cons_succ]
      refine wpAnyH_done (by kernel_rfl) ?_ _
      have bend := below_on b6.out ((Below.refl _ _).drew.trans q_9)
      clear hS
      go_simp
      go_wp2_with fail
      go_ret
      exact ⟨rfl, bend⟩
  · clear hS hE hN hC
    by_cases h1 : a.length ≤ 100
    · have hl1 : decide (100 < a.length) = false := decide_eq_false (by omega)
      have hl2 : decide (100 < b.length) = true := decide_eq_true (by omega)
      have hl3 : ¬ (100 : Int) < (a.length : Int) := by omega
      have hl4 : (100 : Int) < (b.length : Int) := by omega
      clear hl
      go_enter Try.func7, Try.ntmps7
      go_wp2_with fail
      refine (hawake.out _).mono ?_
      rintro e w1 ⟨rfl, q1⟩
      have b1 := Lib.hid q1
      clear q1
      go_wp2_with fail
      go_ret
      exact ⟨rfl, b1.out⟩
    · have hl1 : decide (100 < a.length) = true := decide_eq_true (by omega)
      have hl3 : (100 : Int) < (a.length : Int) := by omega
      clear hl
      go_enter Try.func7, Try.ntmps7
      go_wp2_with fail
      refine (hawake.out _).mono ?_
      rintro e w1 ⟨rfl, q1⟩
      have b1 := Lib.hid q1
      clear q1
      go_wp2_with fail
      go_ret
      exact ⟨rfl, b1.out⟩

end Go.Proofs.Ytodckdlanlgkeaa
