/- Layer 9: the walk of NormIs. -/
import Derived.Test.YthmiiegbgonkhaaGreatDoorNoW0
import Derived.Test.YthmiiegbgonkhaaGreatDoorNoR4
import Derived.Test.YthmiiegbgonkhaaGreatDoorBasP
import Derived.Deep.RegionHeld
import Derived.OrdersHeld
namespace Go.Proofs.YthmiiegbgonkhaaGreatDoor
set_option linter.unusedSimpArgs false
set_option linter.unusedVariables false
open Go.RowKit Go.Lib

theorem held4 {w w1 : World} {a0 a1 a2 a3 : Addr} {u0 u1 u2 u3 : Value} (hb : Below w.heap.size w w1) (h : w.cell? a0 = some u0 ∧ w.cell? a1 = some u1 ∧ w.cell? a2 = some u2 ∧ w.cell? a3 = some u3) :
    w1.cell? a0 = some u0 ∧ w1.cell? a1 = some u1 ∧ w1.cell? a2 = some u2 ∧ w1.cell? a3 = some u3 := by
  obtain ⟨h0, h1, h2, h3⟩ := h
  exact ⟨by rw [hb.cell (World.block_lt_of_cell? _ _ h0)]; exact h0, by rw [hb.cell (World.block_lt_of_cell? _ _ h1)]; exact h1, by rw [hb.cell (World.block_lt_of_cell? _ _ h2)]; exact h2, by rw [hb.cell (World.block_lt_of_cell? _ _ h3)]; exact h3⟩


set_option maxHeartbeats 12800000 in
set_option maxRecDepth 100000 in
theorem normIs_walk (hS : SaneC9) (hF : FeedC9) (hE : EndC9) (hA : AllC9) (vs : Value) (s : List Int) (r : Int) (v : Value) (l : List Int) (w : World) (hs : RI w vs s ∧ WfI s) (hr : -9223372036854775808 ≤ r ∧ r ≤ 9223372036854775807) (hv : RI w v l ∧ WfI l) :
    Calls Tryz.prog 3 #[.agg #[vs], .int .i64 r, v] w fun e w' => e = .returned (.bool true) ∧ Below w.heap.size w w' := by
  obtain ⟨hri, _⟩ := hs
  obtain ⟨hrl, _⟩ := hv
  obtain ⟨p, cap, rfl⟩ := ri_form hri
  obtain ⟨pl, cl, rfl⟩ := ri_form hrl
  have hawake := Lib.hid (awake9 hS hF hE)
  replace hri := Lib.hid hri
  replace hrl := Lib.hid hrl
  by_cases hl : s.length ≤ 60
  · have hl' : decide (60 < s.length) = false := decide_eq_false (by omega)
    have hl2 : ¬ (60 : Int) < (s.length : Int) := by omega
    by_cases hm : l.length ≤ 60
    · have hm' : decide (60 < l.length) = false := decide_eq_false (by omega)
      have hm2 : ¬ (60 : Int) < (l.length : Int) := by omega
      have hkept := Nor.kept_feed s r
      have n1 := Nor.kept_len hkept
      have n2 := Nor.feed_told s r
      have hfeed := fun W h => feed_of9 hF (v := .slice p s.length cap) (l := s) (r := r) (w := W) rfl (by omega) h
      have rfeed := fun W h => rfeed9_any (.slice p s.length cap) s r W (by omega) h
      obtain ⟨q, hq⟩ : ∃ q, Nor.feedI s r = q := ⟨_, rfl⟩
      rw [hq] at hkept n1 n2 hfeed rfeed
      obtain ⟨K1, T1⟩ := q
      have hsane := fun W h => sane_of9 hS (v := .slice p s.length cap) (l := s) (w := W) rfl (by omega) h
      have rsane := fun W h => rsane9_any (.slice p s.length cap) s W (by omega) h
      obtain ⟨c, hc⟩ : ∃ c, Nor.saneB s = c := ⟨_, rfl⟩
      rw [hc] at hsane rsane
      have hcc : (c == c) = true := by simp
      have hend := fun W h => end_of9 hE (v := .slice p s.length cap) (l := s) (w := W) rfl (by omega) h
      have rend := fun W h => rend9_any (.slice p s.length cap) s W (by omega) h
      have n3 := end_len s
      obtain ⟨E, hEE⟩ : ∃ E, Nor.endI s = E := ⟨_, rfl⟩
      rw [hEE] at hend rend n3
      have hall := fun W h => all_of9 hA (v := .slice pl l.length cl) (l := l) (w := W) rfl (by omega) h
      have rall := fun W h => rall9_any (.slice pl l.length cl) l W (by omega) h
      have n4 : (Nor.allI l).length ≤ 8 * l.length := by
        rw [Nor.all_form]
        exact Nat.le_trans (Can.compose_le _) (by
          unfold Nfk.nfkdI
          rw [Can.orderI_len]
          have h1 := Nfk.safe_len (Nfk.madeI l) 0 (by omega)
          have h2 := Nor.made_len l
          omega)
      obtain ⟨A, hAA⟩ : ∃ A, Nor.allI l = A := ⟨_, rfl⟩
      rw [hAA] at hall rall n4
      dsimp only at n1 n2
      have n5 : E.length ≤ 60 := by omega
      have n6 : A.length ≤ 480 := by omega
      replace hfeed := Lib.hid hfeed
      replace rfeed := Lib.hid rfeed
      replace hsane := Lib.hid hsane
      replace rsane := Lib.hid rsane
      replace hend := Lib.hid hend
      replace rend := Lib.hid rend
      replace hall := Lib.hid hall
      replace rall := Lib.hid rall
      clear hkept hq hEE hAA hc n3 n4 hS hF hE hA
      go_enter Tryz.func3, Tryz.ntmps3
      have nb_x0 := below_new w (.cells #[.slice p s.length cap] 24)
      replace hri := Lib.hid (ri_below hri.out nb_x0)
      replace hrl := Lib.hid (ri_below hrl.out nb_x0)
      have x0_b := Lib.hid (blk_new w #[.slice p s.length cap] 24)
      have b0 := Lib.hid nb_x0
      clear nb_x0
      have x0_c := blk_cell x0_b.out 0 _ rfl
      go_wp2_with fail
      refine (hawake.out _).mono ?_
      rintro e w1 ⟨rfl, q1⟩
      clear x0_c
      replace x0_b := Lib.hid (blk_below x0_b.out q1)
      replace hri := Lib.hid (ri_below hri.out q1)
      replace hrl := Lib.hid (ri_below hrl.out q1)
      have b1 := Lib.hid (below_on b0.out q1)
      clear q1
      have x0_c := blk_cell x0_b.out 0 _ rfl
      go_wp2_with fail
      clear x0_c
      have nb_x := below_new w1 (.cells #[.slice p s.length cap] 26)
      replace x0_b := Lib.hid (blk_below x0_b.out nb_x)
      replace hri := Lib.hid (ri_below hri.out nb_x)
      replace hrl := Lib.hid (ri_below hrl.out nb_x)
      have x_b := Lib.hid (blk_new w1 #[.slice p s.length cap] 26)
      replace b1 := Lib.hid (b1.out.alloc b1.out.size (.cells #[.slice p s.length cap] 26))
      clear nb_x
      refine (hfeed.out _ hri.out).mono ?_
      rintro e w2 ⟨v_t, v_o, rfl, t, o, q2⟩
      replace t : RI w2 v_t (K1) := ri_of_own t
      replace o : RI w2 v_o (T1) := ri_of_own o
      obtain ⟨p_t, c_t, rfl⟩ := ri_form t
      obtain ⟨p_o, c_o, rfl⟩ := ri_form o
      replace t := Lib.hid t
      replace o := Lib.hid o
      replace x0_b := Lib.hid (blk_below x0_b.out q2)
      replace x_b := Lib.hid (blk_below x_b.out q2)
      replace hri := Lib.hid (ri_below hri.out q2)
      replace hrl := Lib.hid (ri_below hrl.out q2)
      have b2 := Lib.hid (below_on b1.out q2)
      clear q2
      have nb_t := below_new w2 (.cells #[.slice p_t (K1).length c_t] 26)
      replace x0_b := Lib.hid (blk_below x0_b.out nb_t)
      replace x_b := Lib.hid (blk_below x_b.out nb_t)
      replace hri := Lib.hid (ri_below hri.out nb_t)
      replace hrl := Lib.hid (ri_below hrl.out nb_t)
      replace t := Lib.hid (ri_below t.out nb_t)
      replace o := Lib.hid (ri_below o.out nb_t)
      have t_b := Lib.hid (blk_new w2 #[.slice p_t (K1).length c_t] 26)
      replace b2 := Lib.hid (b2.out.alloc b2.out.size (.cells #[.slice p_t (K1).length c_t] 26))
      clear nb_t
      have x0_c := blk_cell x0_b.out 0 _ rfl
      have x_c := blk_cell x_b.out 0 _ rfl
      have t_c := blk_cell t_b.out 0 _ rfl
      go_wp2_with fail
      refine (rfeed.out _ hri.out).mono ?_
      rintro e w3 ⟨v_u, v_o2, rfl, u, o2, q3⟩
      clear x0_c x_c t_c
      replace u : RI w3 v_u (K1) := ri_of_own u
      replace o2 : RI w3 v_o2 (T1) := o2
      obtain ⟨p_u, c_u, rfl⟩ := ri_form u
      obtain ⟨p_o2, c_o2, rfl⟩ := ri_form o2
      replace u := Lib.hid u
      replace o2 := Lib.hid o2
      replace x0_b := Lib.hid (blk_below x0_b.out q3)
      replace x_b := Lib.hid (blk_below x_b.out q3)
      replace t_b := Lib.hid (blk_below t_b.out q3)
      replace hri := Lib.hid (ri_below hri.out q3)
      replace hrl := Lib.hid (ri_below hrl.out q3)
      replace t := Lib.hid (ri_below t.out q3)
      replace o := Lib.hid (ri_below o.out q3)
      have b3 := Lib.hid (below_on b2.out q3)
      clear q3
      have nb_u := below_new w3 (.cells #[.slice p_u (K1).length c_u] 24)
      replace x0_b := Lib.hid (blk_below x0_b.out nb_u)
      replace x_b := Lib.hid (blk_below x_b.out nb_u)
      replace t_b := Lib.hid (blk_below t_b.out nb_u)
      replace hri := Lib.hid (ri_below hri.out nb_u)
      replace hrl := Lib.hid (ri_below hrl.out nb_u)
      replace t := Lib.hid (ri_below t.out nb_u)
      replace o := Lib.hid (ri_below o.out nb_u)
      replace u := Lib.hid (ri_below u.out nb_u)
      replace o2 := Lib.hid (ri_below o2.out nb_u)
      have u_b := Lib.hid (blk_new w3 #[.slice p_u (K1).length c_u] 24)
      replace b3 := Lib.hid (b3.out.alloc b3.out.size (.cells #[.slice p_u (K1).length c_u] 24))
      clear nb_u
      go_upto_region 7 with (fail)
      generalize hwq : (w3.alloc (.cells #[.slice p_u (K1).length c_u] 24)) = wq at *
      have H4 := Lib.hid (And.intro (blk_cell x0_b.out 0 _ rfl) (And.intro (blk_cell x_b.out 0 _ rfl) (And.intro (blk_cell t_b.out 0 _ rfl) (blk_cell u_b.out 0 _ rfl))))
      clear x0_b x_b t_b u_b
      clear hwq
      replace hri := Lib.hid (ri_drew hri.out)
      replace hrl := Lib.hid (ri_drew hrl.out)
      replace t := Lib.hid (ri_drew t.out)
      replace o := Lib.hid (ri_drew o.out)
      replace u := Lib.hid (ri_drew u.out)
      replace o2 := Lib.hid (ri_drew o2.out)
      have bq := Lib.hid (b3.out.drew)
      refine wp_region_held_drew (S := fun w' => w'.cell? ⟨w.heap.size, 0, none⟩ = some (.slice p s.length cap) ∧ w'.cell? ⟨w1.heap.size, 0, none⟩ = some (.slice p s.length cap) ∧ w'.cell? ⟨w2.heap.size, 0, none⟩ = some (.slice p_t K1.length c_t) ∧ w'.cell? ⟨w3.heap.size, 0, none⟩ = some (.slice p_u K1.length c_u)) (by kernel_rfl) (H4.out) (fun hS => ?_)
      refine' wpAnyH_take (i := 0) (oi := ⟨_, _, _, _, _, _⟩) (v := _) rfl (by kernel_rfl) (by kernel_rfl) (by kernel_rfl) (fun _ _ _ h => h) (Or.inl ⟨by rfl, ?hy0⟩) hS ?rest0
      case hy0 => (intro wz hSw; (try dsimp only at hSw); go_simp; try with_reducible rfl)
      try simp only [Act.put, List.setIfInBounds_toArray, List.set_cons_zero, List.set_cons_succ]
      refine' wpAnyH_take (i := 1) (oi := ⟨_, _, _, _, _, _⟩) (v := _) rfl (by kernel_rfl) (by kernel_rfl) (by kernel_rfl) (fun _ _ _ h => h) (Or.inl ⟨by rfl, ?hy1⟩) hS ?rest1
      case hy1 => (intro wz hSw; (try dsimp only at hSw); go_simp; try with_reducible rfl)
      try simp only [Act.put, List.setIfInBounds_toArray, List.set_cons_zero, List.set_cons_succ]
      refine' wpAnyH_take (i := 2) (oi := ⟨_, _, _, _, _, _⟩) (v := _) rfl (by kernel_rfl) (by kernel_rfl) (by kernel_rfl) (fun _ _ _ h => h) (Or.inl ⟨by rfl, ?hy2⟩) hS ?rest2
      case hy2 => (intro wz hSw; (try dsimp only at hSw); go_simp; try with_reducible rfl)
      try simp only [Act.put, List.setIfInBounds_toArray, List.set_cons_zero, List.set_cons_succ]
      refine' wpAnyH_take (i := 4) (oi := ⟨_, _, _, _, _, _⟩) (v := _) rfl (by kernel_rfl) (by kernel_rfl) (by kernel_rfl) (fun _ _ _ h => h) (Or.inl ⟨by rfl, ?hy4⟩) hS ?rest4
      case hy4 => (intro wz hSw; (try dsimp only at hSw); go_simp; try with_reducible rfl)
      try simp only [Act.put, List.setIfInBounds_toArray, List.set_cons_zero, List.set_cons_succ]
      refine wpAnyH_ready (rs := [3]) (by kernel_rfl) (by simp) (AllReadyH.cons rfl (fun K hK => ?_) AllReadyH.nil)
      go_simp
      go_at_call 7
      refine (hsane.out _ hri.out).mono ?_
      rintro e w_3 ⟨rfl, q_3⟩
      replace hri := Lib.hid (ri_below hri.out q_3)
      replace hrl := Lib.hid (ri_below hrl.out q_3)
      replace t := Lib.hid (ri_below t.out q_3)
      replace o := Lib.hid (ri_below o.out q_3)
      replace u := Lib.hid (ri_below u.out q_3)
      replace o2 := Lib.hid (ri_below o2.out q_3)
      replace bq := Lib.hid (below_on bq.out q_3)
      go_wp2_with fail
      refine hK.out _ _ (held4 q_3 hS) (fun hSn => ?_)
      clear hS
      have hS := hSn
      clear hSn
      clear hK K
      try simp only [Act.put, List.setIfInBounds_toArray, List.set_cons_zero, List.set_cons_succ]
      clear q_3
      refine wpAnyH_ready (rs := [5]) (by kernel_rfl) (by simp) (AllReadyH.cons rfl (fun K hK => ?_) AllReadyH.nil)
      go_simp
      go_at_call 8
      refine (rsane.out _ hri.out).mono ?_
      rintro e w_5 ⟨rfl, q_5⟩
      replace hri := Lib.hid (ri_below hri.out q_5)
      replace hrl := Lib.hid (ri_below hrl.out q_5)
      replace t := Lib.hid (ri_below t.out q_5)
      replace o := Lib.hid (ri_below o.out q_5)
      replace u := Lib.hid (ri_below u.out q_5)
      replace o2 := Lib.hid (ri_below o2.out q_5)
      replace bq := Lib.hid (below_on bq.out q_5)
      go_wp2_with fail
      refine hK.out _ _ (held4 q_5 hS) (fun hSn => ?_)
      clear hS
      have hS := hSn
      clear hSn
      clear hK K
      try simp only [Act.put, List.setIfInBounds_toArray, List.set_cons_zero, List.set_cons_succ]
      clear q_5
      refine' wpAnyH_take (i := 6) (oi := ⟨_, _, _, _, _, _⟩) (v := _) rfl (by kernel_rfl) (by kernel_rfl) (by kernel_rfl) (fun _ _ _ h => h) (Or.inl ⟨by rfl, ?hy6⟩) hS ?rest6
      case hy6 => (intro wz hSw; (try dsimp only at hSw); go_simp; try with_reducible rfl)
      try simp only [Act.put, List.setIfInBounds_toArray, List.set_cons_zero, List.set_cons_succ]
      try simp only [hcc]
      refine' wpAnyH_take (i := 7) (oi := ⟨_, _, _, _, _, _⟩) (v := _) rfl (by kernel_rfl) (by kernel_rfl) (by kernel_rfl) (fun _ _ _ h => h) (Or.inl ⟨by rfl, ?hy7⟩) hS ?rest7
      case hy7 => (intro wz hSw; (try dsimp only at hSw); go_simp; try with_reducible rfl)
      try simp only [Act.put, List.setIfInBounds_toArray, List.set_cons_zero, List.set_cons_succ]
      refine' wpAnyH_take (i := 8) (oi := ⟨_, _, _, _, _, _⟩) (v := _) rfl (by kernel_rfl) (by kernel_rfl) (by kernel_rfl) (fun _ _ _ h => h) (Or.inl ⟨by rfl, ?hy8⟩) hS ?rest8
      case hy8 => (intro wz hSw; (try dsimp only at hSw); go_simp; try with_reducible rfl)
      try simp only [Act.put, List.setIfInBounds_toArray, List.set_cons_zero, List.set_cons_succ]
      refine' wpAnyH_take (i := 9) (oi := ⟨_, _, _, _, _, _⟩) (v := _) rfl (by kernel_rfl) (by kernel_rfl) (by kernel_rfl) (fun _ _ _ h => h) (Or.inl ⟨by rfl, ?hy9⟩) hS ?rest9
      case hy9 => (intro wz hSw; (try dsimp only at hSw); go_simp; try with_reducible rfl)
      try simp only [Act.put, List.setIfInBounds_toArray, List.set_cons_zero, List.set_cons_succ]
      refine' wpAnyH_take (i := 10) (oi := ⟨_, _, _, _, _, _⟩) (v := _) rfl (by kernel_rfl) (by kernel_rfl) (by kernel_rfl) (fun _ _ _ h => h) (Or.inl ⟨by rfl, ?hy10⟩) hS ?rest10
      case hy10 => (intro wz hSw; (try dsimp only at hSw); go_simp; try with_reducible rfl)
      try simp only [Act.put, List.setIfInBounds_toArray, List.set_cons_zero, List.set_cons_succ]
      refine' wpAnyH_take (i := 11) (oi := ⟨_, _, _, _, _, _⟩) (v := _) rfl (by kernel_rfl) (by kernel_rfl) (by kernel_rfl) (fun _ _ _ h => h) (Or.inl ⟨by rfl, ?hy11⟩) hS ?rest11
      case hy11 => (intro wz hSw; (try dsimp only at hSw); go_simp; try with_reducible rfl)
      try simp only [Act.put, List.setIfInBounds_toArray, List.set_cons_zero, List.set_cons_succ]
      refine' wpAnyH_take (i := 12) (oi := ⟨_, _, _, _, _, _⟩) (v := _) rfl (by kernel_rfl) (by kernel_rfl) (by kernel_rfl) (fun _ _ _ h => h) (Or.inl ⟨by rfl, ?hy12⟩) hS ?rest12
      case hy12 => (intro wz hSw; (try dsimp only at hSw); go_simp; try with_reducible rfl)
      try simp only [Act.put, List.setIfInBounds_toArray, List.set_cons_zero, List.set_cons_succ]
      refine wpAnyH_ready (rs := [13]) (by kernel_rfl) (by simp) (AllReadyH.cons rfl (fun K hK => ?_) AllReadyH.nil)
      go_simp
      go_at_call 9
      refine (same_self _ _ K1 _ (by omega) t.out u.out).mono ?_
      rintro e w_13 ⟨rfl, q_13⟩
      replace hri := Lib.hid (ri_below hri.out q_13)
      replace hrl := Lib.hid (ri_below hrl.out q_13)
      replace t := Lib.hid (ri_below t.out q_13)
      replace o := Lib.hid (ri_below o.out q_13)
      replace u := Lib.hid (ri_below u.out q_13)
      replace o2 := Lib.hid (ri_below o2.out q_13)
      replace bq := Lib.hid (below_on bq.out q_13)
      go_wp2_with fail
      refine hK.out _ _ (held4 q_13 hS) (fun hSn => ?_)
      clear hS
      have hS := hSn
      clear hSn
      clear hK K
      try simp only [Act.put, List.setIfInBounds_toArray, List.set_cons_zero, List.set_cons_succ]
      clear q_13
      clear t u
      refine' wpAnyH_take (i := 14) (oi := ⟨_, _, _, _, _, _⟩) (v := _) rfl (by kernel_rfl) (by kernel_rfl) (by kernel_rfl) (fun _ _ _ h => h) (Or.inl ⟨by rfl, ?hy14⟩) hS ?rest14
      case hy14 => (intro wz hSw; (try dsimp only at hSw); go_simp; try with_reducible rfl)
      try simp only [Act.put, List.setIfInBounds_toArray, List.set_cons_zero, List.set_cons_succ]
      refine' wpAnyH_take (i := 15) (oi := ⟨_, _, _, _, _, _⟩) (v := _) rfl (by kernel_rfl) (by kernel_rfl) (by kernel_rfl) (fun _ _ _ h => h) (Or.inl ⟨by rfl, ?hy15⟩) hS ?rest15
      case hy15 => (intro wz hSw; (try dsimp only at hSw); go_simp; try with_reducible rfl)
      try simp only [Act.put, List.setIfInBounds_toArray, List.set_cons_zero, List.set_cons_succ]
      refine' wpAnyH_take (i := 16) (oi := ⟨_, _, _, _, _, _⟩) (v := _) rfl (by kernel_rfl) (by kernel_rfl) (by kernel_rfl) (fun _ _ _ h => h) (Or.inl ⟨by rfl, ?hy16⟩) hS ?rest16
      case hy16 => (intro wz hSw; (try dsimp only at hSw); go_simp; try with_reducible rfl)
      try simp only [Act.put, List.setIfInBounds_toArray, List.set_cons_zero, List.set_cons_succ]
      refine' wpAnyH_take (i := 17) (oi := ⟨_, _, _, _, _, _⟩) (v := _) rfl (by kernel_rfl) (by kernel_rfl) (by kernel_rfl) (fun _ _ _ h => h) (Or.inl ⟨by rfl, ?hy17⟩) hS ?rest17
      case hy17 => (intro wz hSw; (try dsimp only at hSw); go_simp; try with_reducible rfl)
      try simp only [Act.put, List.setIfInBounds_toArray, List.set_cons_zero, List.set_cons_succ]
      refine wpAnyH_ready (rs := [18]) (by kernel_rfl) (by simp) (AllReadyH.cons rfl (fun K hK => ?_) AllReadyH.nil)
      go_simp
      go_at_call 9
      refine (same_self _ _ T1 _ (by omega) o.out o2.out).mono ?_
      rintro e w_18 ⟨rfl, q_18⟩
      replace hri := Lib.hid (ri_below hri.out q_18)
      replace hrl := Lib.hid (ri_below hrl.out q_18)
      replace o := Lib.hid (ri_below o.out q_18)
      replace o2 := Lib.hid (ri_below o2.out q_18)
      replace bq := Lib.hid (below_on bq.out q_18)
      go_wp2_with fail
      refine hK.out _ _ (held4 q_18 hS) (fun hSn => ?_)
      clear hS
      have hS := hSn
      clear hSn
      clear hK K
      try simp only [Act.put, List.setIfInBounds_toArray, List.set_cons_zero, List.set_cons_succ]
      clear q_18
      clear o o2
      refine' wpAnyH_take (i := 19) (oi := ⟨_, _, _, _, _, _⟩) (v := _) rfl (by kernel_rfl) (by kernel_rfl) (by kernel_rfl) (fun _ _ _ h => h) (Or.inl ⟨by rfl, ?hy19⟩) hS ?rest19
      case hy19 => (intro wz hSw; (try dsimp only at hSw); go_simp; try with_reducible rfl)
      try simp only [Act.put, List.setIfInBounds_toArray, List.set_cons_zero, List.set_cons_succ]
      refine' wpAnyH_take (i := 20) (oi := ⟨_, _, _, _, _, _⟩) (v := _) rfl (by kernel_rfl) (by kernel_rfl) (by kernel_rfl) (fun _ _ _ h => h) (Or.inl ⟨by rfl, ?hy20⟩) hS ?rest20
      case hy20 => (intro wz hSw; (try dsimp only at hSw); go_simp; try with_reducible rfl)
      try simp only [Act.put, List.setIfInBounds_toArray, List.set_cons_zero, List.set_cons_succ]
      refine' wpAnyH_take (i := 21) (oi := ⟨_, _, _, _, _, _⟩) (v := _) rfl (by kernel_rfl) (by kernel_rfl) (by kernel_rfl) (fun _ _ _ h => h) (Or.inl ⟨by rfl, ?hy21⟩) hS ?rest21
      case hy21 => (intro wz hSw; (try dsimp only at hSw); go_simp; try with_reducible rfl)
      try simp only [Act.put, List.setIfInBounds_toArray, List.set_cons_zero, List.set_cons_succ]
      refine' wpAnyH_take (i := 23) (oi := ⟨_, _, _, _, _, _⟩) (v := _) rfl (by kernel_rfl) (by kernel_rfl) (by kernel_rfl) (fun _ _ _ h => h) (Or.inl ⟨by rfl, ?hy23⟩) hS ?rest23
      case hy23 => (intro wz hSw; (try dsimp only at hSw); go_simp; try with_reducible rfl)
      try simp only [Act.put, List.setIfInBounds_toArray, List.set_cons_zero, List.set_cons_succ]
      refine wpAnyH_ready (rs := [22]) (by kernel_rfl) (by simp) (AllReadyH.cons rfl (fun K hK => ?_) AllReadyH.nil)
      go_simp
      go_at_call 10
      refine (hend.out _ hri.out).mono ?_
      rintro e w_22 ⟨v_e1, rfl, e1, q_22⟩
      replace hri := Lib.hid (ri_below hri.out q_22)
      replace hrl := Lib.hid (ri_below hrl.out q_22)
      replace e1 := Lib.hid (e1)
      replace bq := Lib.hid (below_on bq.out q_22)
      go_wp2_with fail
      refine hK.out _ _ (held4 q_22 hS) (fun hSn => ?_)
      clear hS
      have hS := hSn
      clear hSn
      clear hK K
      try simp only [Act.put, List.setIfInBounds_toArray, List.set_cons_zero, List.set_cons_succ]
      clear q_22
      refine wpAnyH_ready (rs := [24]) (by kernel_rfl) (by simp) (AllReadyH.cons rfl (fun K hK => ?_) AllReadyH.nil)
      go_simp
      go_at_call 11
      refine (rend.out _ hri.out).mono ?_
      rintro e w_24 ⟨v_e2, rfl, e2, q_24⟩
      replace hri := Lib.hid (ri_below hri.out q_24)
      replace hrl := Lib.hid (ri_below hrl.out q_24)
      replace e1 := Lib.hid (ri_below e1.out q_24)
      replace e2 := Lib.hid (ri_of_own e2)
      replace bq := Lib.hid (below_on bq.out q_24)
      go_wp2_with fail
      refine hK.out _ _ (held4 q_24 hS) (fun hSn => ?_)
      clear hS
      have hS := hSn
      clear hSn
      clear hK K
      try simp only [Act.put, List.setIfInBounds_toArray, List.set_cons_zero, List.set_cons_succ]
      clear q_24
      refine wpAnyH_ready (rs := [25]) (by kernel_rfl) (by simp) (AllReadyH.cons rfl (fun K hK => ?_) AllReadyH.nil)
      go_simp
      go_at_call 9
      refine (same_self _ _ E _ (by omega) e1.out e2.out).mono ?_
      rintro e w_25 ⟨rfl, q_25⟩
      replace hri := Lib.hid (ri_below hri.out q_25)
      replace hrl := Lib.hid (ri_below hrl.out q_25)
      replace e1 := Lib.hid (ri_below e1.out q_25)
      replace e2 := Lib.hid (ri_below e2.out q_25)
      replace bq := Lib.hid (below_on bq.out q_25)
      go_wp2_with fail
      refine hK.out _ _ (held4 q_25 hS) (fun hSn => ?_)
      clear hS
      have hS := hSn
      clear hSn
      clear hK K
      try simp only [Act.put, List.setIfInBounds_toArray, List.set_cons_zero, List.set_cons_succ]
      clear q_25
      clear e1 e2
      refine' wpAnyH_take (i := 26) (oi := ⟨_, _, _, _, _, _⟩) (v := _) rfl (by kernel_rfl) (by kernel_rfl) (by kernel_rfl) (fun _ _ _ h => h) (Or.inl ⟨by rfl, ?hy26⟩) hS ?rest26
      case hy26 => (intro wz hSw; (try dsimp only at hSw); go_simp; try with_reducible rfl)
      try simp only [Act.put, List.setIfInBounds_toArray, List.set_cons_zero, List.set_cons_succ]
      refine' wpAnyH_take (i := 27) (oi := ⟨_, _, _, _, _, _⟩) (v := _) rfl (by kernel_rfl) (by kernel_rfl) (by kernel_rfl) (fun _ _ _ h => h) (Or.inl ⟨by rfl, ?hy27⟩) hS ?rest27
      case hy27 => (intro wz hSw; (try dsimp only at hSw); go_simp; try with_reducible rfl)
      try simp only [Act.put, List.setIfInBounds_toArray, List.set_cons_zero, List.set_cons_succ]
      refine' wpAnyH_take (i := 28) (oi := ⟨_, _, _, _, _, _⟩) (v := _) rfl (by kernel_rfl) (by kernel_rfl) (by kernel_rfl) (fun _ _ _ h => h) (Or.inl ⟨by rfl, ?hy28⟩) hS ?rest28
      case hy28 => (intro wz hSw; (try dsimp only at hSw); go_simp; try with_reducible rfl)
      try simp only [Act.put, List.setIfInBounds_toArray, List.set_cons_zero, List.set_cons_succ]
      refine' wpAnyH_take (i := 30) (oi := ⟨_, _, _, _, _, _⟩) (v := _) rfl (by kernel_rfl) (by kernel_rfl) (by kernel_rfl) (fun _ _ _ h => h) (Or.inl ⟨by rfl, ?hy30⟩) hS ?rest30
      case hy30 => (intro wz hSw; (try dsimp only at hSw); go_simp; try with_reducible rfl)
      try simp only [Act.put, List.setIfInBounds_toArray, List.set_cons_zero, List.set_cons_succ]
      refine wpAnyH_ready (rs := [29]) (by kernel_rfl) (by simp) (AllReadyH.cons rfl (fun K hK => ?_) AllReadyH.nil)
      go_simp
      go_at_call 12
      refine (hall.out _ hrl.out).mono ?_
      rintro e w_29 ⟨v_a1, rfl, a1, q_29⟩
      replace hri := Lib.hid (ri_below hri.out q_29)
      replace hrl := Lib.hid (ri_below hrl.out q_29)
      replace a1 := Lib.hid (a1)
      replace bq := Lib.hid (below_on bq.out q_29)
      go_wp2_with fail
      refine hK.out _ _ (held4 q_29 hS) (fun hSn => ?_)
      clear hS
      have hS := hSn
      clear hSn
      clear hK K
      try simp only [Act.put, List.setIfInBounds_toArray, List.set_cons_zero, List.set_cons_succ]
      clear q_29
      refine wpAnyH_ready (rs := [31]) (by kernel_rfl) (by simp) (AllReadyH.cons rfl (fun K hK => ?_) AllReadyH.nil)
      go_simp
      go_at_call 13
      refine (rall.out _ hrl.out).mono ?_
      rintro e w_31 ⟨v_a2, rfl, a2, q_31⟩
      replace hri := Lib.hid (ri_below hri.out q_31)
      replace hrl := Lib.hid (ri_below hrl.out q_31)
      replace a1 := Lib.hid (ri_below a1.out q_31)
      replace a2 := Lib.hid (ri_of_own a2)
      replace bq := Lib.hid (below_on bq.out q_31)
      go_wp2_with fail
      refine hK.out _ _ (held4 q_31 hS) (fun hSn => ?_)
      clear hS
      have hS := hSn
      clear hSn
      clear hK K
      try simp only [Act.put, List.setIfInBounds_toArray, List.set_cons_zero, List.set_cons_succ]
      clear q_31
      refine wpAnyH_ready (rs := [32]) (by kernel_rfl) (by simp) (AllReadyH.cons rfl (fun K hK => ?_) AllReadyH.nil)
      go_simp
      go_at_call 9
      refine (same_self _ _ A _ (by omega) a1.out a2.out).mono ?_
      rintro e w_32 ⟨rfl, q_32⟩
      replace hri := Lib.hid (ri_below hri.out q_32)
      replace hrl := Lib.hid (ri_below hrl.out q_32)
      replace a1 := Lib.hid (ri_below a1.out q_32)
      replace a2 := Lib.hid (ri_below a2.out q_32)
      replace bq := Lib.hid (below_on bq.out q_32)
      go_wp2_with fail
      refine hK.out _ _ (held4 q_32 hS) (fun hSn => ?_)
      clear hS
      have hS := hSn
      clear hSn
      clear hK K
      try simp only [Act.put, List.setIfInBounds_toArray, List.set_cons_zero, List.set_cons_succ]
      clear q_32
      clear a1 a2
      refine' wpAnyH_take (i := 33) (oi := ⟨_, _, _, _, _, _⟩) (v := _) rfl (by kernel_rfl) (by kernel_rfl) (by kernel_rfl) (fun _ _ _ h => h) (Or.inl ⟨by rfl, ?hy33⟩) hS ?rest33
      case hy33 => (intro wz hSw; (try dsimp only at hSw); go_simp; try with_reducible rfl)
      try simp only [Act.put, List.setIfInBounds_toArray, List.set_cons_zero, List.set_cons_succ]
      refine' wpAnyH_take (i := 34) (oi := ⟨_, _, _, _, _, _⟩) (v := _) rfl (by kernel_rfl) (by kernel_rfl) (by kernel_rfl) (fun _ _ _ h => h) (Or.inl ⟨by rfl, ?hy34⟩) hS ?rest34
      case hy34 => (intro wz hSw; (try dsimp only at hSw); go_simp; try with_reducible rfl)
      try simp only [Act.put, List.setIfInBounds_toArray, List.set_cons_zero, List.set_cons_succ]
      refine wpAnyH_done (by kernel_rfl) ?_ _
      clear hS
      go_simp
      go_wp2_with fail
      go_ret
      exact ⟨rfl, bq.out⟩
    · have hm' : decide (60 < l.length) = true := decide_eq_true (by omega)
      have hm2 : (60 : Int) < (l.length : Int) := by omega
      clear hS hF hE hA
      go_enter Tryz.func3, Tryz.ntmps3
      have nb_x0 := below_new w (.cells #[.slice p s.length cap] 24)
      replace hri := Lib.hid (ri_below hri.out nb_x0)
      have x0_b := Lib.hid (blk_new w #[.slice p s.length cap] 24)
      have b0 := Lib.hid nb_x0
      clear nb_x0
      have x0_c := blk_cell x0_b.out 0 _ rfl
      go_wp2_with fail
      refine (hawake.out _).mono ?_
      rintro e w1 ⟨rfl, q1⟩
      clear x0_c
      replace x0_b := Lib.hid (blk_below x0_b.out q1)
      replace hri := Lib.hid (ri_below hri.out q1)
      have b1 := Lib.hid (below_on b0.out q1)
      clear q1
      have x0_c := blk_cell x0_b.out 0 _ rfl
      go_wp2_with fail
      go_ret
      exact ⟨rfl, b1.out⟩
  · have hl' : decide (60 < s.length) = true := decide_eq_true (by omega)
    have hl2 : (60 : Int) < (s.length : Int) := by omega
    clear hS hF hE hA
    go_enter Tryz.func3, Tryz.ntmps3
    have nb_x0 := below_new w (.cells #[.slice p s.length cap] 24)
    replace hri := Lib.hid (ri_below hri.out nb_x0)
    have x0_b := Lib.hid (blk_new w #[.slice p s.length cap] 24)
    have b0 := Lib.hid nb_x0
    clear nb_x0
    have x0_c := blk_cell x0_b.out 0 _ rfl
    go_wp2_with fail
    refine (hawake.out _).mono ?_
    rintro e w1 ⟨rfl, q1⟩
    clear x0_c
    replace x0_b := Lib.hid (blk_below x0_b.out q1)
    replace hri := Lib.hid (ri_below hri.out q1)
    have b1 := Lib.hid (below_on b0.out q1)
    clear q1
    have x0_c := blk_cell x0_b.out 0 _ rfl
    go_wp2_with fail
    go_ret
    exact ⟨rfl, b1.out⟩

end Go.Proofs.YthmiiegbgonkhaaGreatDoor
