/- Layer 7: the walk of CanonIs. -/
import Derived.Test.YtkhjkodeolaemaaDoorCnW0
import Derived.Test.YtkhjkodeolaemaaDoorCnR3
namespace Go.Proofs.YtkhjkodeolaemaaDoor
set_option linter.unusedSimpArgs false
set_option linter.unusedVariables false
open Go.RowKit Go.Lib

set_option maxHeartbeats 1600000 in
theorem canonIs_walk (hO : OrderC) (hS : SortedC) (hM : MarksC) (hC : ComposeC) (v : Value) (l : List Int) (w : World) (hv : RI w v l ∧ WfI l) :
    Calls Tryd.prog 3 #[v] w fun e w' => e = .returned (.bool true) ∧ Below w.heap.size w w' := by
  obtain ⟨hri, hwf⟩ := hv
  obtain ⟨p, cap, rfl⟩ := ri_form hri
  have hawake := Lib.hid (awake7 hO hS hM hC)
  replace hri := Lib.hid hri
  by_cases hl : l.length ≤ 120
  · have hl' : decide (120 < l.length) = false := decide_eq_false (by omega)
    have ho := fun W h => hO (.slice p l.length cap) l W (by omega) h hwf
    have hro := fun W h => rorder_any (.slice p l.length cap) l W (by omega) h
    have hs := fun W h => hS (.slice p l.length cap) l W (by omega) h hwf
    have hrs := fun W h => rsorted_any (.slice p l.length cap) l W (by omega) h
    have hm := fun W h => hM (.slice p l.length cap) l W (by omega) h hwf
    have hrm := fun W h => rmarks_any (.slice p l.length cap) l W (by omega) h
    have hc := fun W h => hC (.slice p l.length cap) l W (by omega) h hwf
    have hrc := fun W h => rcompose_any (.slice p l.length cap) l W (by omega) h
    have hlo := Can.orderI_len l
    have hlc := Can.compose_le l
    obtain ⟨O, hOO⟩ : ∃ O, Can.orderI l = O := ⟨_, rfl⟩
    obtain ⟨C, hCC⟩ : ∃ C, Can.composeI l = C := ⟨_, rfl⟩
    obtain ⟨s, hss⟩ : ∃ s, Can.sortedB l = s := ⟨_, rfl⟩
    obtain ⟨k, hkk⟩ : ∃ k, Can.marksI l = k := ⟨_, rfl⟩
    rw [hOO] at ho hro hlo
    rw [hCC] at hc hrc hlc
    rw [hss] at hs hrs
    rw [hkk] at hm hrm
    replace ho := Lib.hid ho
    replace hro := Lib.hid hro
    replace hs := Lib.hid hs
    replace hrs := Lib.hid hrs
    replace hm := Lib.hid hm
    replace hrm := Lib.hid hrm
    replace hc := Lib.hid hc
    replace hrc := Lib.hid hrc
    clear hOO hCC hss hkk hwf hO hS hM hC
    go_enter Tryd.func3, Tryd.ntmps3
    go_wp2_with fail
    refine (hawake.out w).mono ?_
    rintro e w1 ⟨rfl, hb1⟩
    replace hb1 := Lib.hid hb1
    go_wp2_with fail
    refine (ho.out _ (ri_below hri.out hb1.out)).mono ?_
    rintro e w2 ⟨v1, rfl, o1, hb2⟩
    replace o1 := Lib.hid o1
    replace hb2 := Lib.hid (below_on hb1.out hb2)
    go_wp2_with fail
    refine (hro.out _ (ri_below hri.out hb2.out)).mono ?_
    rintro e w3 ⟨v2, rfl, o2, hb3⟩
    replace o1 := Lib.hid (ri_below o1.out hb3)
    replace o2 := Lib.hid (ri_of_own o2)
    replace hb3 := Lib.hid (below_on hb2.out hb3)
    go_wp2_with fail
    refine (same_self _ _ O _ (by omega) o1.out o2.out).mono ?_
    rintro e w4 ⟨rfl, hb4⟩
    replace hb4 := Lib.hid (below_on hb3.out hb4)
    clear o1 o2
    go_wp2_with fail
    refine (hs.out _ (ri_below hri.out hb4.out)).mono ?_
    rintro e w5 ⟨rfl, hb5⟩
    replace hb5 := Lib.hid (below_on hb4.out hb5)
    go_wp2_with fail
    refine (hrs.out _ (ri_below hri.out hb5.out)).mono ?_
    rintro e w6 ⟨rfl, hb6⟩
    replace hb6 := Lib.hid (below_on hb5.out hb6)
    have hss : (s == s) = true := by simp
    go_wp2_with fail
    refine (hm.out _ (ri_below hri.out hb6.out)).mono ?_
    rintro e w7 ⟨rfl, hb7⟩
    replace hb7 := Lib.hid (below_on hb6.out hb7)
    go_wp2_with fail
    refine (hrm.out _ (ri_below hri.out hb7.out)).mono ?_
    rintro e w8 ⟨rfl, hb8⟩
    replace hb8 := Lib.hid (below_on hb7.out hb8)
    have hkk : ((k : Int) == (k : Int)) = true := by simp
    go_wp2_with fail
    refine (hc.out _ (ri_below hri.out hb8.out)).mono ?_
    rintro e w9 ⟨v3, rfl, o3, hb9⟩
    replace o3 := Lib.hid o3
    replace hb9 := Lib.hid (below_on hb8.out hb9)
    go_wp2_with fail
    refine (hrc.out _ (ri_below hri.out hb9.out)).mono ?_
    rintro e w10 ⟨v4, rfl, o4, hb10⟩
    replace o3 := Lib.hid (ri_below o3.out hb10)
    replace o4 := Lib.hid (ri_of_own o4)
    replace hb10 := Lib.hid (below_on hb9.out hb10)
    go_wp2_with fail
    refine (same_self _ _ C _ (by omega) o3.out o4.out).mono ?_
    rintro e w11 ⟨rfl, hb11⟩
    replace hb11 := Lib.hid (below_on hb10.out hb11)
    go_wp2_with fail
    go_ret
    exact ⟨rfl, hb11.out⟩
  · have hl' : decide (120 < l.length) = true := decide_eq_true (by omega)
    clear hwf
    go_enter Tryd.func3, Tryd.ntmps3
    go_wp2_with fail
    refine (hawake.out w).mono ?_
    rintro e w1 ⟨rfl, hb1⟩
    replace hb1 := Lib.hid hb1
    go_wp2_with fail
    go_ret
    exact ⟨rfl, hb1.out⟩

end Go.Proofs.YtkhjkodeolaemaaDoor
