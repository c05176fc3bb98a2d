/- Layer 10: the walk of FoldinCase. -/
import Derived.Test.YtfmnecknfmgggaaGreatDoorFoW0
import Derived.Test.YtfmnecknfmgggaaGreatDoorNfW0
namespace Go.Proofs.YtfmnecknfmgggaaGreatDoor
set_option linter.unusedSimpArgs false
set_option linter.unusedVariables false
open Go.RowKit Go.Lib

set_option maxHeartbeats 6400000 in
set_option maxRecDepth 100000 in
theorem foldinCase_walk (hL : LeftC10) (hA : AllC10) (hK : CaseC) (hF : FormC) (v : Value) (l : List Int) (w : World) (hv : RI w v l ∧ WfI l) :
    Calls Tryz.prog 4 #[v] w fun e w' => e = .returned (.bool true) ∧ Below w.heap.size w w' := by
  obtain ⟨hri, hwf⟩ := hv
  obtain ⟨p, cap, rfl⟩ := ri_form hri
  have hawake := Lib.hid (awake10 hL hA)
  replace hri := Lib.hid hri
  by_cases hl : l.length ≤ 60
  · have hl' : decide (60 < l.length) = false := decide_eq_false (by omega)
    have hl2 : ¬ (60 : Int) < (l.length : Int) := by omega
    have n1 := (Cas.all_len l).2
    have n2 := left_le l
    have n3 := all_len10 l
    have hwc := wf_case hwf
    have hwl := wf_left hwf
    have hwA : WfI (Fol.allI l) := by rw [Fol.all_form]; exact wf_nfkc hwl
    have e1 : Fol.allI (Cas.allI l) = Fol.allI l := by rw [Fol.all_form, Fol.all_form, Fol.left_all]
    have e2 : Fol.allI (Fol.leftI l) = Fol.allI l := by rw [Fol.all_form, Fol.all_form, Fol.left_once]
    have e3 : Nfk.nfkcI (Fol.allI l) = Fol.allI l := by rw [Fol.all_form, Nfk.nfkc_nfkc]
    have hall := fun W h => all_of10 hA (v := .slice p l.length cap) (l := l) (w := W) rfl (by omega) hwf h
    have hcas := fun W h => case_of hK (v := .slice p l.length cap) (l := l) (w := W) rfl (by omega) hwf h
    have hac := fun V W h => all_of10 hA (v := V) (w := W) e1 (by omega) hwc h
    have hlf := fun W h => left_of10 hL (v := .slice p l.length cap) (l := l) (w := W) rfl (by omega) hwf h
    have hal := fun V W h => all_of10 hA (v := V) (w := W) e2 (by omega) hwl h
    have hll := fun V W h => left_of10 hL (v := V) (w := W) (Fol.left_once l) (by omega) hwl h
    have hform := fun V W h => form_yes hF (v := V) (w := W) e3 (by omega) hwA h
    obtain ⟨C, hC⟩ : ∃ C, Fol.allI l = C := ⟨_, rfl⟩
    obtain ⟨L, hLL⟩ : ∃ C, Fol.leftI l = C := ⟨_, rfl⟩
    obtain ⟨D, hD⟩ : ∃ C, Cas.allI l = C := ⟨_, rfl⟩
    rw [hC] at hall hac hal hform n3
    rw [hLL] at hlf hal hll n2
    rw [hD] at hcas hac n1
    have hCl : C.length ≤ 1440 := by omega
    have hLl : L.length ≤ 180 := by omega
    replace hall := Lib.hid hall
    replace hcas := Lib.hid hcas
    replace hac := Lib.hid hac
    replace hlf := Lib.hid hlf
    replace hal := Lib.hid hal
    replace hll := Lib.hid hll
    replace hform := Lib.hid hform
    clear hC hLL hD e1 e2 e3 hwA hwc hwl hwf n1 n2 n3 hL hA hK hF
    go_enter Tryz.func4, Tryz.ntmps4
    go_wp2_with fail
    refine (hawake.out _).mono ?_
    rintro e w1 ⟨rfl, q1⟩
    replace hri := Lib.hid (ri_below hri.out q1)
    have b1 := Lib.hid q1
    clear q1
    go_wp2_with fail
    refine (hall.out _ hri.out).mono ?_
    rintro e w2 ⟨v_c, rfl, c, q2⟩
    replace c := Lib.hid c
    replace hri := Lib.hid (ri_below hri.out q2)
    have b2 := Lib.hid (below_on b1.out q2)
    clear q2
    go_wp2_with fail
    refine (hcas.out _ hri.out).mono ?_
    rintro e w3 ⟨v_x1, rfl, x1, q3⟩
    replace x1 := Lib.hid x1
    replace hri := Lib.hid (ri_below hri.out q3)
    replace c := Lib.hid (ri_below c.out q3)
    have b3 := Lib.hid (below_on b2.out q3)
    clear q3
    go_wp2_with fail
    refine (hac.out _ _ x1.out).mono ?_
    rintro e w4 ⟨v_x2, rfl, x2, q4⟩
    replace x2 := Lib.hid x2
    replace hri := Lib.hid (ri_below hri.out q4)
    replace c := Lib.hid (ri_below c.out q4)
    replace x1 := Lib.hid (ri_below x1.out q4)
    have b4 := Lib.hid (below_on b3.out q4)
    clear q4
    go_wp2_with fail
    refine (same_self _ _ C _ (by omega) x2.out c.out).mono ?_
    rintro e w5 ⟨rfl, q5⟩
    replace hri := Lib.hid (ri_below hri.out q5)
    replace c := Lib.hid (ri_below c.out q5)
    replace x1 := Lib.hid (ri_below x1.out q5)
    replace x2 := Lib.hid (ri_below x2.out q5)
    have b5 := Lib.hid (below_on b4.out q5)
    clear q5
    clear x1 x2
    go_wp2_with fail
    refine (hlf.out _ hri.out).mono ?_
    rintro e w6 ⟨v_y1, rfl, y1, q6⟩
    replace y1 := Lib.hid y1
    replace hri := Lib.hid (ri_below hri.out q6)
    replace c := Lib.hid (ri_below c.out q6)
    have b6 := Lib.hid (below_on b5.out q6)
    clear q6
    go_wp2_with fail
    refine (hal.out _ _ y1.out).mono ?_
    rintro e w7 ⟨v_y2, rfl, y2, q7⟩
    replace y2 := Lib.hid y2
    replace hri := Lib.hid (ri_below hri.out q7)
    replace c := Lib.hid (ri_below c.out q7)
    replace y1 := Lib.hid (ri_below y1.out q7)
    have b7 := Lib.hid (below_on b6.out q7)
    clear q7
    go_wp2_with fail
    refine (same_self _ _ C _ (by omega) y2.out c.out).mono ?_
    rintro e w8 ⟨rfl, q8⟩
    replace hri := Lib.hid (ri_below hri.out q8)
    replace c := Lib.hid (ri_below c.out q8)
    replace y1 := Lib.hid (ri_below y1.out q8)
    replace y2 := Lib.hid (ri_below y2.out q8)
    have b8 := Lib.hid (below_on b7.out q8)
    clear q8
    clear y1 y2
    go_wp2_with fail
    refine (hlf.out _ hri.out).mono ?_
    rintro e w9 ⟨v_z1, rfl, z1, q9⟩
    replace z1 := Lib.hid z1
    replace hri := Lib.hid (ri_below hri.out q9)
    replace c := Lib.hid (ri_below c.out q9)
    have b9 := Lib.hid (below_on b8.out q9)
    clear q9
    go_wp2_with fail
    refine (hll.out _ _ z1.out).mono ?_
    rintro e w10 ⟨v_z2, rfl, z2, q10⟩
    replace z2 := Lib.hid z2
    replace hri := Lib.hid (ri_below hri.out q10)
    replace c := Lib.hid (ri_below c.out q10)
    replace z1 := Lib.hid (ri_below z1.out q10)
    have b10 := Lib.hid (below_on b9.out q10)
    clear q10
    go_wp2_with fail
    refine (hlf.out _ hri.out).mono ?_
    rintro e w11 ⟨v_z3, rfl, z3, q11⟩
    replace z3 := Lib.hid z3
    replace hri := Lib.hid (ri_below hri.out q11)
    replace c := Lib.hid (ri_below c.out q11)
    replace z1 := Lib.hid (ri_below z1.out q11)
    replace z2 := Lib.hid (ri_below z2.out q11)
    have b11 := Lib.hid (below_on b10.out q11)
    clear q11
    go_wp2_with fail
    refine (same_self _ _ L _ (by omega) z2.out z3.out).mono ?_
    rintro e w12 ⟨rfl, q12⟩
    replace hri := Lib.hid (ri_below hri.out q12)
    replace c := Lib.hid (ri_below c.out q12)
    replace z1 := Lib.hid (ri_below z1.out q12)
    replace z2 := Lib.hid (ri_below z2.out q12)
    replace z3 := Lib.hid (ri_below z3.out q12)
    have b12 := Lib.hid (below_on b11.out q12)
    clear q12
    clear z1 z2 z3
    go_wp2_with fail
    refine (hform.out _ _ c.out).mono ?_
    rintro e w13 ⟨rfl, q13⟩
    replace hri := Lib.hid (ri_below hri.out q13)
    replace c := Lib.hid (ri_below c.out q13)
    have b13 := Lib.hid (below_on b12.out q13)
    clear q13
    go_wp2_with fail
    go_ret
    exact ⟨rfl, b13.out⟩
  · have hl' : decide (60 < l.length) = true := decide_eq_true (by omega)
    have hl2 : (60 : Int) < (l.length : Int) := by omega
    clear hwf hL hA hK hF
    go_enter Tryz.func4, Tryz.ntmps4
    go_wp2_with fail
    refine (hawake.out _).mono ?_
    rintro e w1 ⟨rfl, q1⟩
    replace hri := Lib.hid (ri_below hri.out q1)
    have b1 := Lib.hid q1
    clear q1
    go_wp2_with fail
    go_ret
    exact ⟨rfl, b1.out⟩

end Go.Proofs.YtfmnecknfmgggaaGreatDoor
