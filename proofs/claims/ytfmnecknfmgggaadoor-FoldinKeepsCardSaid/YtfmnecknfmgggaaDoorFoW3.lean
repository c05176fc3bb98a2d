/- Layer 10: the walk of FoldinKeeps. -/
import Derived.Test.YtfmnecknfmgggaaDoorFoW0
import Derived.Test.YtfmnecknfmgggaaDoorNoS
namespace Go.Proofs.YtfmnecknfmgggaaDoor
set_option linter.unusedSimpArgs false
set_option linter.unusedVariables false
open Go.RowKit Go.Lib

set_option maxHeartbeats 3200000 in
set_option maxRecDepth 100000 in
theorem foldinKeeps_walk (hL : LeftC10) (hF : FeedC10) (hA : AllC10) (hS : SaneC9) (v : Value) (s : List Int) (r : Int) (w : World) (hv : RI w v s ∧ WfI s) (hr : -9223372036854775808 ≤ r ∧ r ≤ 9223372036854775807) :
    Calls Tryd.prog 4 #[.agg #[v], .int .i64 r] w fun e w' => e = .returned (.bool true) ∧ Below w.heap.size w w' := by
  obtain ⟨hri, _⟩ := hv
  obtain ⟨p, cap, rfl⟩ := ri_form hri
  have hawake := Lib.hid (awake10 hL hA)
  replace hri := Lib.hid hri
  by_cases hl : s.length ≤ 100
  · have hl' : decide (100 < s.length) = false := decide_eq_false (by omega)
    have hl2 : ¬ (100 : Int) < (s.length : Int) := by omega
    have hkept := Fol.feed_kept s r
    have n1 := Nor.kept_len hkept
    have n2 := Fol.feed_told s r
    have hfeed := fun W h => feed_of10 hF (v := .slice p s.length cap) (l := s) (r := r) (w := W) rfl (by omega) hr h
    obtain ⟨q, hq⟩ : ∃ q, Fol.feedI s r = q := ⟨_, rfl⟩
    rw [hq] at hkept n1 n2 hfeed
    obtain ⟨K1, T1⟩ := q
    have hsane := Lib.hid (fun V W h => sane_of9 hS (v := V) (w := W) (Nor.kept_sane hkept) (by omega) h)
    dsimp only at n1 n2
    have n2' : (T1.length : Int) ≤ 130 := by omega
    replace hfeed := Lib.hid hfeed
    clear hkept hq hL hF hA hS
    go_enter Tryd.func4, Tryd.ntmps4
    have nb_x0 := below_new w (.cells #[.slice p s.length cap] 29)
    replace hri := Lib.hid (ri_below hri.out nb_x0)
    have x0_b := Lib.hid (blk_new w #[.slice p s.length cap] 29)
    have b0 := Lib.hid nb_x0
    clear nb_x0
    have x0_c := blk_cell x0_b.out 0 _ rfl
    go_wp2_with fail
    refine (hawake.out _).mono ?_
    rintro e w1 ⟨rfl, q1⟩
    clear x0_c
    replace x0_b := Lib.hid (blk_below x0_b.out q1)
    replace hri := Lib.hid (ri_below hri.out q1)
    have b1 := Lib.hid (below_on b0.out q1)
    clear q1
    have x0_c := blk_cell x0_b.out 0 _ rfl
    go_wp2_with fail
    refine (hfeed.out _ hri.out).mono ?_
    rintro e w2 ⟨v_t, v_o, rfl, t, o, q2⟩
    clear x0_c
    replace t : RI w2 v_t (K1) := t
    replace o : RI w2 v_o (T1) := o
    obtain ⟨p_t, c_t, rfl⟩ := ri_form t
    obtain ⟨p_o, c_o, rfl⟩ := ri_form o
    replace t := Lib.hid t
    replace o := Lib.hid o
    replace x0_b := Lib.hid (blk_below x0_b.out q2)
    replace hri := Lib.hid (ri_below hri.out q2)
    have b2 := Lib.hid (below_on b1.out q2)
    clear q2
    have nb_t := below_new w2 (.cells #[.slice p_t (K1).length c_t] 30)
    replace x0_b := Lib.hid (blk_below x0_b.out nb_t)
    replace hri := Lib.hid (ri_below hri.out nb_t)
    replace t := Lib.hid (ri_below t.out nb_t)
    replace o := Lib.hid (ri_below o.out nb_t)
    have t_b := Lib.hid (blk_new w2 #[.slice p_t (K1).length c_t] 30)
    replace b2 := Lib.hid (b2.out.alloc b2.out.size (.cells #[.slice p_t (K1).length c_t] 30))
    clear nb_t
    clear x0_b
    have t_c := blk_cell t_b.out 0 _ rfl
    go_wp2_with fail
    refine (hsane.out _ _ t.out).mono ?_
    rintro e w3 ⟨rfl, q3⟩
    clear t_c
    replace t_b := Lib.hid (blk_below t_b.out q3)
    replace hri := Lib.hid (ri_below hri.out q3)
    replace t := Lib.hid (ri_below t.out q3)
    replace o := Lib.hid (ri_below o.out q3)
    have b3 := Lib.hid (below_on b2.out q3)
    clear q3
    have t_c := blk_cell t_b.out 0 _ rfl
    go_wp2_with fail
    go_ret
    exact ⟨rfl, b3.out⟩
  · have hl' : decide (100 < s.length) = true := decide_eq_true (by omega)
    have hl2 : (100 : Int) < (s.length : Int) := by omega
    clear hL hF hA hS
    go_enter Tryd.func4, Tryd.ntmps4
    have nb_x0 := below_new w (.cells #[.slice p s.length cap] 29)
    replace hri := Lib.hid (ri_below hri.out nb_x0)
    have x0_b := Lib.hid (blk_new w #[.slice p s.length cap] 29)
    have b0 := Lib.hid nb_x0
    clear nb_x0
    have x0_c := blk_cell x0_b.out 0 _ rfl
    go_wp2_with fail
    refine (hawake.out _).mono ?_
    rintro e w1 ⟨rfl, q1⟩
    clear x0_c
    replace x0_b := Lib.hid (blk_below x0_b.out q1)
    replace hri := Lib.hid (ri_below hri.out q1)
    have b1 := Lib.hid (below_on b0.out q1)
    clear q1
    have x0_c := blk_cell x0_b.out 0 _ rfl
    go_wp2_with fail
    go_ret
    exact ⟨rfl, b1.out⟩

end Go.Proofs.YtfmnecknfmgggaaDoor
