/- Layer 9: the walk of NormKeeps. -/
import Derived.Test.YthmiiegbgonkhaaDoorNoW0
namespace Go.Proofs.YthmiiegbgonkhaaDoor
set_option linter.unusedSimpArgs false
set_option linter.unusedVariables false
open Go.RowKit Go.Lib

set_option maxHeartbeats 3200000 in
set_option maxRecDepth 100000 in
theorem normKeeps_walk (hS : SaneC9) (hF : FeedC9) (hE : EndC9) (v : Value) (s : List Int) (r : Int) (w : World) (hv : RI w v s ∧ WfI s) (hr : -9223372036854775808 ≤ r ∧ r ≤ 9223372036854775807) :
    Calls Tryd.prog 4 #[.agg #[v], .int .i64 r] w fun e w' => e = .returned (.bool true) ∧ Below w.heap.size w w' := by
  obtain ⟨hri, hwf⟩ := hv
  obtain ⟨p, cap, rfl⟩ := ri_form hri
  have hawake := Lib.hid (awake9 hS hF hE)
  replace hri := Lib.hid hri
  by_cases hl : s.length ≤ 100
  · have hl' : decide (100 < s.length) = false := decide_eq_false (by omega)
    have hl2 : ¬ (100 : Int) < (s.length : Int) := by omega
    have hkept := Nor.kept_feed s r
    have n1 := Nor.kept_len hkept
    have n2 := Nor.feed_told s r
    have hfeed := fun W h => feed_of9 hF (v := .slice p s.length cap) (l := s) (r := r) (w := W) rfl (by omega) h
    obtain ⟨q, hq⟩ : ∃ q, Nor.feedI s r = q := ⟨_, rfl⟩
    rw [hq] at hkept n1 n2 hfeed
    obtain ⟨K1, T1⟩ := q
    have hsane := Lib.hid (fun V W h => sane_of9 hS (v := V) (w := W) (Nor.kept_sane hkept) (by omega) h)
    have hend := fun V W h => end_of9 hE (v := V) (l := K1) (w := W) rfl (by dsimp only at n1; omega) h
    have n3 := end_len K1
    obtain ⟨E, hEE⟩ : ∃ E, Nor.endI K1 = E := ⟨_, rfl⟩
    rw [hEE] at hend n3
    dsimp only at n1 n2 n3
    have n4 : E.length ≤ 31 := by omega
    have n1' : (K1.length : Int) ≤ 31 := by omega
    have n2' : (T1.length : Int) ≤ 130 := by omega
    have n4' : (E.length : Int) ≤ 31 := by omega
    replace hfeed := Lib.hid hfeed
    replace hend := Lib.hid hend
    clear hkept hq hEE hwf n3 hS hF hE
    go_enter Tryd.func4, Tryd.ntmps4
    have nb_x0 := below_new w (.cells #[.slice p s.length cap] 28)
    replace hri := Lib.hid (ri_below hri.out nb_x0)
    have x0_b := Lib.hid (blk_new w #[.slice p s.length cap] 28)
    have b0 := Lib.hid nb_x0
    clear nb_x0
    have x0_c := blk_cell x0_b.out 0 _ rfl
    go_wp2_with fail
    refine (hawake.out _).mono ?_
    rintro e w1 ⟨rfl, q1⟩
    clear x0_c
    replace x0_b := Lib.hid (blk_below x0_b.out q1)
    replace hri := Lib.hid (ri_below hri.out q1)
    have b1 := Lib.hid (below_on b0.out q1)
    clear q1
    have x0_c := blk_cell x0_b.out 0 _ rfl
    go_wp2_with fail
    refine (hfeed.out _ hri.out).mono ?_
    rintro e w2 ⟨v_t, v_o, rfl, t, o, q2⟩
    clear x0_c
    replace t : RI w2 v_t (K1) := ri_of_own t
    replace o : RI w2 v_o (T1) := ri_of_own o
    obtain ⟨p_t, c_t, rfl⟩ := ri_form t
    obtain ⟨p_o, c_o, rfl⟩ := ri_form o
    replace t := Lib.hid t
    replace o := Lib.hid o
    replace x0_b := Lib.hid (blk_below x0_b.out q2)
    replace hri := Lib.hid (ri_below hri.out q2)
    have b2 := Lib.hid (below_on b1.out q2)
    clear q2
    have nb_t := below_new w2 (.cells #[.slice p_t (K1).length c_t] 29)
    replace x0_b := Lib.hid (blk_below x0_b.out nb_t)
    replace hri := Lib.hid (ri_below hri.out nb_t)
    replace t := Lib.hid (ri_below t.out nb_t)
    replace o := Lib.hid (ri_below o.out nb_t)
    have t_b := Lib.hid (blk_new w2 #[.slice p_t (K1).length c_t] 29)
    replace b2 := Lib.hid (b2.out.alloc b2.out.size (.cells #[.slice p_t (K1).length c_t] 29))
    clear nb_t
    clear x0_b
    have t_c := blk_cell t_b.out 0 _ rfl
    go_wp2_with fail
    refine (hsane.out _ _ t.out).mono ?_
    rintro e w3 ⟨rfl, q3⟩
    clear t_c
    replace t_b := Lib.hid (blk_below t_b.out q3)
    replace hri := Lib.hid (ri_below hri.out q3)
    replace t := Lib.hid (ri_below t.out q3)
    replace o := Lib.hid (ri_below o.out q3)
    have b3 := Lib.hid (below_on b2.out q3)
    clear q3
    have t_c := blk_cell t_b.out 0 _ rfl
    go_wp2_with fail
    refine (hend.out _ _ t.out).mono ?_
    rintro e w4 ⟨v_e, rfl, e, q4⟩
    clear t_c
    obtain ⟨p_e, c_e, rfl⟩ := ri_form e
    replace e := Lib.hid e
    replace t_b := Lib.hid (blk_below t_b.out q4)
    replace hri := Lib.hid (ri_below hri.out q4)
    replace t := Lib.hid (ri_below t.out q4)
    replace o := Lib.hid (ri_below o.out q4)
    have b4 := Lib.hid (below_on b3.out q4)
    clear q4
    have t_c := blk_cell t_b.out 0 _ rfl
    go_wp2_with fail
    go_ret
    exact ⟨rfl, b4.out⟩
  · have hl' : decide (100 < s.length) = true := decide_eq_true (by omega)
    have hl2 : (100 : Int) < (s.length : Int) := by omega
    clear hwf hS hF hE
    go_enter Tryd.func4, Tryd.ntmps4
    have nb_x0 := below_new w (.cells #[.slice p s.length cap] 28)
    replace hri := Lib.hid (ri_below hri.out nb_x0)
    have x0_b := Lib.hid (blk_new w #[.slice p s.length cap] 28)
    have b0 := Lib.hid nb_x0
    clear nb_x0
    have x0_c := blk_cell x0_b.out 0 _ rfl
    go_wp2_with fail
    refine (hawake.out _).mono ?_
    rintro e w1 ⟨rfl, q1⟩
    clear x0_c
    replace x0_b := Lib.hid (blk_below x0_b.out q1)
    replace hri := Lib.hid (ri_below hri.out q1)
    have b1 := Lib.hid (below_on b0.out q1)
    clear q1
    have x0_c := blk_cell x0_b.out 0 _ rfl
    go_wp2_with fail
    go_ret
    exact ⟨rfl, b1.out⟩

end Go.Proofs.YthmiiegbgonkhaaDoor
