/- Layer 10: the walk of FoldinIs. -/
import Derived.Test.YtfmnecknfmgggaaGreatDoorFoW0
import Derived.Test.YtfmnecknfmgggaaGreatDoorFoR3
namespace Go.Proofs.YtfmnecknfmgggaaGreatDoor
set_option linter.unusedSimpArgs false
set_option linter.unusedVariables false
open Go.RowKit Go.Lib

set_option maxHeartbeats 6400000 in
set_option maxRecDepth 100000 in
theorem foldinIs_walk (hL : LeftC10) (hF : FeedC10) (hA : AllC10) (vs : Value) (s : List Int) (r : Int) (v : Value) (l : List Int) (w : World) (hs : RI w vs s ∧ WfI s) (hr : -9223372036854775808 ≤ r ∧ r ≤ 9223372036854775807) (hv : RI w v l ∧ WfI l) :
    Calls Tryz.prog 3 #[.agg #[vs], .int .i64 r, v] w fun e w' => e = .returned (.bool true) ∧ Below w.heap.size w w' := by
  obtain ⟨hri, _⟩ := hs
  obtain ⟨hrl, hwl⟩ := hv
  obtain ⟨p, cap, rfl⟩ := ri_form hri
  obtain ⟨pl, cl, rfl⟩ := ri_form hrl
  have hawake := Lib.hid (awake10 hL hA)
  replace hri := Lib.hid hri
  replace hrl := Lib.hid hrl
  by_cases hl : s.length ≤ 60
  · have hl' : decide (60 < s.length) = false := decide_eq_false (by omega)
    have hl2 : ¬ (60 : Int) < (s.length : Int) := by omega
    by_cases hm : l.length ≤ 60
    · have hm' : decide (60 < l.length) = false := decide_eq_false (by omega)
      have hm2 : ¬ (60 : Int) < (l.length : Int) := by omega
      have n1 := Nor.kept_len (Fol.feed_kept s r)
      have n2 := Fol.feed_told s r
      have hfeed := fun W h => feed_of10 hF (v := .slice p s.length cap) (l := s) (r := r) (w := W) rfl (by omega) hr h
      have rfeed : ∀ W, RI W (.slice p s.length cap) s → Calls Tryz.prog 7 #[.agg #[.slice p s.length cap], .int .i64 r] W (FedR (Fol.feedI s r) W) := fun W h => (rfeed10_any (.slice p s.length cap) s r W (by omega) h).mono fun e w' ⟨va, vb, h1, h2, h3, _, h5⟩ => ⟨va, vb, h1, h2, h3, h5⟩
      obtain ⟨q, hq⟩ : ∃ q, Fol.feedI s r = q := ⟨_, rfl⟩
      rw [hq] at n1 n2 hfeed rfeed
      obtain ⟨K1, T1⟩ := q
      have hleft := fun W h => left_of10 hL (v := .slice pl l.length cl) (l := l) (w := W) rfl (by omega) hwl h
      have rleft := fun W h => rleft_any (.slice pl l.length cl) l W (by omega) h
      have n3 := left_le l
      obtain ⟨L, hLL⟩ : ∃ E, Fol.leftI l = E := ⟨_, rfl⟩
      rw [hLL] at hleft rleft n3
      have hall := fun W h => all_of10 hA (v := .slice pl l.length cl) (l := l) (w := W) rfl (by omega) hwl h
      have rall := fun W h => rall10_any (.slice pl l.length cl) l W (by omega) h
      have n4 := all_len10 l
      obtain ⟨A, hAA⟩ : ∃ A, Fol.allI l = A := ⟨_, rfl⟩
      rw [hAA] at hall rall n4
      dsimp only at n1 n2
      have n5 : L.length ≤ 180 := by omega
      have n6 : A.length ≤ 1440 := by omega
      replace hfeed := Lib.hid hfeed
      replace rfeed := Lib.hid rfeed
      replace hleft := Lib.hid hleft
      replace rleft := Lib.hid rleft
      replace hall := Lib.hid hall
      replace rall := Lib.hid rall
      clear hq hLL hAA n3 n4 hL hF hA hwl
      go_enter Tryz.func3, Tryz.ntmps3
      have nb_x0 := below_new w (.cells #[.slice p s.length cap] 24)
      replace hri := Lib.hid (ri_below hri.out nb_x0)
      replace hrl := Lib.hid (ri_below hrl.out nb_x0)
      have x0_b := Lib.hid (blk_new w #[.slice p s.length cap] 24)
      have b0 := Lib.hid nb_x0
      clear nb_x0
      have x0_c := blk_cell x0_b.out 0 _ rfl
      go_wp2_with fail
      refine (hawake.out _).mono ?_
      rintro e w1 ⟨rfl, q1⟩
      clear x0_c
      replace x0_b := Lib.hid (blk_below x0_b.out q1)
      replace hri := Lib.hid (ri_below hri.out q1)
      replace hrl := Lib.hid (ri_below hrl.out q1)
      have b1 := Lib.hid (below_on b0.out q1)
      clear q1
      have x0_c := blk_cell x0_b.out 0 _ rfl
      go_wp2_with fail
      refine (hfeed.out _ hri.out).mono ?_
      rintro e w2 ⟨v_t, v_o, rfl, t, o, q2⟩
      clear x0_c
      replace t : RI w2 v_t (K1) := t
      replace o : RI w2 v_o (T1) := o
      obtain ⟨p_t, c_t, rfl⟩ := ri_form t
      obtain ⟨p_o, c_o, rfl⟩ := ri_form o
      replace t := Lib.hid t
      replace o := Lib.hid o
      replace x0_b := Lib.hid (blk_below x0_b.out q2)
      replace hri := Lib.hid (ri_below hri.out q2)
      replace hrl := Lib.hid (ri_below hrl.out q2)
      have b2 := Lib.hid (below_on b1.out q2)
      clear q2
      have nb_t := below_new w2 (.cells #[.slice p_t (K1).length c_t] 26)
      replace x0_b := Lib.hid (blk_below x0_b.out nb_t)
      replace hri := Lib.hid (ri_below hri.out nb_t)
      replace hrl := Lib.hid (ri_below hrl.out nb_t)
      replace t := Lib.hid (ri_below t.out nb_t)
      replace o := Lib.hid (ri_below o.out nb_t)
      have t_b := Lib.hid (blk_new w2 #[.slice p_t (K1).length c_t] 26)
      replace b2 := Lib.hid (b2.out.alloc b2.out.size (.cells #[.slice p_t (K1).length c_t] 26))
      clear nb_t
      have x0_c := blk_cell x0_b.out 0 _ rfl
      have t_c := blk_cell t_b.out 0 _ rfl
      go_wp2_with fail
      refine (rfeed.out _ hri.out).mono ?_
      rintro e w3 ⟨v_u, v_o2, rfl, u, o2, q3⟩
      clear x0_c t_c
      replace u : RI w3 v_u (K1) := u
      replace o2 : RI w3 v_o2 (T1) := o2
      obtain ⟨p_u, c_u, rfl⟩ := ri_form u
      obtain ⟨p_o2, c_o2, rfl⟩ := ri_form o2
      replace u := Lib.hid u
      replace o2 := Lib.hid o2
      replace x0_b := Lib.hid (blk_below x0_b.out q3)
      replace t_b := Lib.hid (blk_below t_b.out q3)
      replace hri := Lib.hid (ri_below hri.out q3)
      replace hrl := Lib.hid (ri_below hrl.out q3)
      replace t := Lib.hid (ri_below t.out q3)
      replace o := Lib.hid (ri_below o.out q3)
      have b3 := Lib.hid (below_on b2.out q3)
      clear q3
      have nb_u := below_new w3 (.cells #[.slice p_u (K1).length c_u] 24)
      replace x0_b := Lib.hid (blk_below x0_b.out nb_u)
      replace t_b := Lib.hid (blk_below t_b.out nb_u)
      replace hri := Lib.hid (ri_below hri.out nb_u)
      replace hrl := Lib.hid (ri_below hrl.out nb_u)
      replace t := Lib.hid (ri_below t.out nb_u)
      replace o := Lib.hid (ri_below o.out nb_u)
      replace u := Lib.hid (ri_below u.out nb_u)
      replace o2 := Lib.hid (ri_below o2.out nb_u)
      have u_b := Lib.hid (blk_new w3 #[.slice p_u (K1).length c_u] 24)
      replace b3 := Lib.hid (b3.out.alloc b3.out.size (.cells #[.slice p_u (K1).length c_u] 24))
      clear nb_u
      clear x0_b
      clear hri
      have t_c := blk_cell t_b.out 0 _ rfl
      have u_c := blk_cell u_b.out 0 _ rfl
      go_wp2_with fail
      refine (same_self _ _ K1 _ (by omega) t.out u.out).mono ?_
      rintro e w4 ⟨rfl, q4⟩
      clear t_c u_c
      replace t_b := Lib.hid (blk_below t_b.out q4)
      replace u_b := Lib.hid (blk_below u_b.out q4)
      replace hrl := Lib.hid (ri_below hrl.out q4)
      replace t := Lib.hid (ri_below t.out q4)
      replace o := Lib.hid (ri_below o.out q4)
      replace u := Lib.hid (ri_below u.out q4)
      replace o2 := Lib.hid (ri_below o2.out q4)
      have b4 := Lib.hid (below_on b3.out q4)
      clear q4
      have t_c := blk_cell t_b.out 0 _ rfl
      have u_c := blk_cell u_b.out 0 _ rfl
      go_wp2_with fail
      refine (same_self _ _ T1 _ (by omega) o.out o2.out).mono ?_
      rintro e w5 ⟨rfl, q5⟩
      clear t_c u_c
      replace t_b := Lib.hid (blk_below t_b.out q5)
      replace u_b := Lib.hid (blk_below u_b.out q5)
      replace hrl := Lib.hid (ri_below hrl.out q5)
      replace t := Lib.hid (ri_below t.out q5)
      replace o := Lib.hid (ri_below o.out q5)
      replace u := Lib.hid (ri_below u.out q5)
      replace o2 := Lib.hid (ri_below o2.out q5)
      have b5 := Lib.hid (below_on b4.out q5)
      clear q5
      clear t_b u_b
      clear t u o o2
      go_wp2_with fail
      refine (hleft.out _ hrl.out).mono ?_
      rintro e w6 ⟨v_x1, rfl, x1, q6⟩
      replace x1 := Lib.hid x1
      replace hrl := Lib.hid (ri_below hrl.out q6)
      have b6 := Lib.hid (below_on b5.out q6)
      clear q6
      go_wp2_with fail
      refine (rleft.out _ hrl.out).mono ?_
      rintro e w7 ⟨v_x2, rfl, x2, q7⟩
      replace x2 := ri_of_own x2
      replace x2 := Lib.hid x2
      replace hrl := Lib.hid (ri_below hrl.out q7)
      replace x1 := Lib.hid (ri_below x1.out q7)
      have b7 := Lib.hid (below_on b6.out q7)
      clear q7
      go_wp2_with fail
      refine (same_self _ _ L _ (by omega) x1.out x2.out).mono ?_
      rintro e w8 ⟨rfl, q8⟩
      replace hrl := Lib.hid (ri_below hrl.out q8)
      replace x1 := Lib.hid (ri_below x1.out q8)
      replace x2 := Lib.hid (ri_below x2.out q8)
      have b8 := Lib.hid (below_on b7.out q8)
      clear q8
      clear x1 x2
      go_wp2_with fail
      refine (hall.out _ hrl.out).mono ?_
      rintro e w9 ⟨v_y1, rfl, y1, q9⟩
      replace y1 := Lib.hid y1
      replace hrl := Lib.hid (ri_below hrl.out q9)
      have b9 := Lib.hid (below_on b8.out q9)
      clear q9
      go_wp2_with fail
      refine (rall.out _ hrl.out).mono ?_
      rintro e w10 ⟨v_y2, rfl, y2, q10⟩
      replace y2 := ri_of_own y2
      replace y2 := Lib.hid y2
      replace hrl := Lib.hid (ri_below hrl.out q10)
      replace y1 := Lib.hid (ri_below y1.out q10)
      have b10 := Lib.hid (below_on b9.out q10)
      clear q10
      go_wp2_with fail
      refine (same_self _ _ A _ (by omega) y1.out y2.out).mono ?_
      rintro e w11 ⟨rfl, q11⟩
      replace hrl := Lib.hid (ri_below hrl.out q11)
      replace y1 := Lib.hid (ri_below y1.out q11)
      replace y2 := Lib.hid (ri_below y2.out q11)
      have b11 := Lib.hid (below_on b10.out q11)
      clear q11
      go_wp2_with fail
      go_ret
      exact ⟨rfl, b11.out⟩
    · have hm' : decide (60 < l.length) = true := decide_eq_true (by omega)
      have hm2 : (60 : Int) < (l.length : Int) := by omega
      clear hL hF hA hwl
      go_enter Tryz.func3, Tryz.ntmps3
      have nb_x0 := below_new w (.cells #[.slice p s.length cap] 24)
      replace hri := Lib.hid (ri_below hri.out nb_x0)
      have x0_b := Lib.hid (blk_new w #[.slice p s.length cap] 24)
      have b0 := Lib.hid nb_x0
      clear nb_x0
      have x0_c := blk_cell x0_b.out 0 _ rfl
      go_wp2_with fail
      refine (hawake.out _).mono ?_
      rintro e w1 ⟨rfl, q1⟩
      clear x0_c
      replace x0_b := Lib.hid (blk_below x0_b.out q1)
      replace hri := Lib.hid (ri_below hri.out q1)
      have b1 := Lib.hid (below_on b0.out q1)
      clear q1
      have x0_c := blk_cell x0_b.out 0 _ rfl
      go_wp2_with fail
      go_ret
      exact ⟨rfl, b1.out⟩
  · have hl' : decide (60 < s.length) = true := decide_eq_true (by omega)
    have hl2 : (60 : Int) < (s.length : Int) := by omega
    clear hL hF hA hwl
    go_enter Tryz.func3, Tryz.ntmps3
    have nb_x0 := below_new w (.cells #[.slice p s.length cap] 24)
    replace hri := Lib.hid (ri_below hri.out nb_x0)
    have x0_b := Lib.hid (blk_new w #[.slice p s.length cap] 24)
    have b0 := Lib.hid nb_x0
    clear nb_x0
    have x0_c := blk_cell x0_b.out 0 _ rfl
    go_wp2_with fail
    refine (hawake.out _).mono ?_
    rintro e w1 ⟨rfl, q1⟩
    clear x0_c
    replace x0_b := Lib.hid (blk_below x0_b.out q1)
    replace hri := Lib.hid (ri_below hri.out q1)
    have b1 := Lib.hid (below_on b0.out q1)
    clear q1
    have x0_c := blk_cell x0_b.out 0 _ rfl
    go_wp2_with fail
    go_ret
    exact ⟨rfl, b1.out⟩

end Go.Proofs.YtfmnecknfmgggaaGreatDoor
