/- Layer 6: the walk of CasingIs. -/
import Derived.Test.YtapmgakndndbkaaCaW0
import Derived.Test.YtapmgakndndbkaaCaR1
import Derived.Test.YtapmgakndndbkaaSa
namespace Go.Proofs.Ytapmgakndndbkaa
open Go.RowKit Go.Lib

theorem same_self (v1 v2 : Value) (l : List Int) (w : World) (hl : l.length ≤ 100000) (h1 : RI w v1 l) (h2 : RI w v2 l) :
    Calls Try.prog 8 #[v1, v2] w fun e w' => e = .returned (.bool true) ∧ Below w.heap.size w w' := by
  refine (same_any v1 v2 l l w hl h1 h2).mono ?_
  rintro e w' ⟨rfl, n, rfl⟩
  exact ⟨by rw [show sameB l l = true from decide_eq_true rfl], drewN_below w n⟩

set_option maxHeartbeats 1600000 in
theorem casingIs_walk (r : Int) (v : Value) (l : List Int) (w : World) (hr : -9223372036854775808 ≤ r ∧ r ≤ 9223372036854775807) (hv : RI w v l ∧ ∀ x ∈ l, -9223372036854775808 ≤ x ∧ x ≤ 9223372036854775807) :
    Calls Try.prog 3 #[.int .i64 r, v] w fun e w' => e = .returned (.bool true) ∧ Below w.heap.size w w' := by
  obtain ⟨hri, hwf⟩ := hv
  obtain ⟨p, cap, rfl⟩ := ri_form hri
  replace hri := Lib.hid hri
  by_cases hl : l.length ≤ 100
  · have hl' : decide ((100 : Int) < (l.length : Int)) = false := decide_eq_false (by omega)
    have hlen := (Cas.all_len l).2
    have hfl := (Cas.fold_len r).2
    have hf := fun W => fold_any r W hr.1 hr.2
    have hrf := fun W => rfold_any r W
    have ha := fun W h => all_any (.slice p l.length cap) l W (by omega) h hwf
    have hra := fun W h => rall_any (.slice p l.length cap) l W (by omega) h
    obtain ⟨F, hF⟩ : ∃ F, Cas.foldI r = F := ⟨_, rfl⟩
    obtain ⟨M, hM⟩ : ∃ M, Cas.allI l = M := ⟨_, rfl⟩
    rw [hF] at hf hrf hfl
    rw [hM] at ha hra hlen
    replace hf := Lib.hid hf
    replace hrf := Lib.hid hrf
    replace ha := Lib.hid ha
    replace hra := Lib.hid hra
    clear hF hM hwf hr
    go_enter Try.func3, Try.ntmps3
    go_wp2_with fail
    refine (awake6 w).mono ?_
    rintro e w1 ⟨rfl, hb1⟩
    replace hb1 := Lib.hid hb1
    go_wp2_with fail
    refine (hf.out _).mono ?_
    rintro e w2 ⟨v1, rfl, o1, hb2⟩
    replace o1 := Lib.hid (ri_of_own o1)
    replace hb2 := Lib.hid (below_on hb1.out hb2)
    go_wp2_with fail
    refine (hrf.out _).mono ?_
    rintro e w3 ⟨v2, rfl, o2, hb3⟩
    replace o1 := Lib.hid (ri_below o1.out hb3)
    replace o2 := Lib.hid o2
    replace hb3 := Lib.hid (below_on hb2.out hb3)
    go_wp2_with fail
    refine (same_self _ _ F _ (by omega) o1.out o2.out).mono ?_
    rintro e w4 ⟨rfl, hb4⟩
    replace hb4 := Lib.hid (below_on hb3.out hb4)
    clear o1 o2
    go_wp2_with fail
    refine (ha.out _ (ri_below hri.out hb4.out)).mono ?_
    rintro e w5 ⟨v3, rfl, o3, hb5⟩
    replace o3 := Lib.hid (ri_of_own o3)
    replace hb5 := Lib.hid (below_on hb4.out hb5)
    go_wp2_with fail
    refine (hra.out _ (ri_below hri.out hb5.out)).mono ?_
    rintro e w6 ⟨v4, rfl, o4, hb6⟩
    replace o3 := Lib.hid (ri_below o3.out hb6)
    replace o4 := Lib.hid (ri_of_own o4)
    replace hb6 := Lib.hid (below_on hb5.out hb6)
    go_wp2_with fail
    refine (same_self _ _ M _ (by omega) o3.out o4.out).mono ?_
    rintro e w7 ⟨rfl, hb7⟩
    replace hb7 := Lib.hid (below_on hb6.out hb7)
    go_wp2_with fail
    go_ret
    exact ⟨rfl, hb7.out⟩
  · have hl' : decide ((100 : Int) < (l.length : Int)) = true := decide_eq_true (by omega)
    clear hwf
    go_enter Try.func3, Try.ntmps3
    go_wp2_with fail
    refine (awake6 w).mono ?_
    rintro e w1 ⟨rfl, hb1⟩
    replace hb1 := Lib.hid hb1
    go_wp2_with fail
    go_ret
    exact ⟨rfl, hb1.out⟩

end Go.Proofs.Ytapmgakndndbkaa
