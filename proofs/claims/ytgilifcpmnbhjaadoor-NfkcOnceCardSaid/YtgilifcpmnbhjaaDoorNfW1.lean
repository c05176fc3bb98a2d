/- Layer 8: the walks of NfkcIs and NfkcOnce. -/
import Derived.Test.YtgilifcpmnbhjaaDoorNfW0
import Derived.Test.YtgilifcpmnbhjaaDoorNfR1
namespace Go.Proofs.YtgilifcpmnbhjaaDoor
set_option linter.unusedSimpArgs false
set_option linter.unusedVariables false
open Go.RowKit Go.Lib

set_option maxHeartbeats 3200000 in
set_option maxRecDepth 100000 in
theorem nfkcIs_walk (hM : MadeC) (hS : SafeC) (hD : NfkdC) (hK : NfkcC) (hF : FormC) (v : Value) (l : List Int) (w : World) (hv : RI w v l ∧ WfI l) :
    Calls Tryd.prog 3 #[v] w fun e w' => e = .returned (.bool true) ∧ Below w.heap.size w w' := by
  obtain ⟨hri, hwf⟩ := hv
  obtain ⟨p, cap, rfl⟩ := ri_form hri
  have hawake := Lib.hid (awake8 hM hK hF)
  replace hri := Lib.hid hri
  by_cases hl : l.length ≤ 100
  · have hl' : decide (100 < l.length) = false := decide_eq_false (by omega)
    have hmade := Lib.hid (fun W h => hM (.slice p l.length cap) l W (by omega) h hwf)
    have rmade := Lib.hid (fun W h => rmade_any (.slice p l.length cap) l W (by omega) h)
    have hsafe := Lib.hid (fun W h => hS (.slice p l.length cap) l W (by omega) h hwf)
    have rsafe := Lib.hid (fun W h => rsafe_any (.slice p l.length cap) l W (by omega) h)
    have hnfkd := Lib.hid (fun W h => hD (.slice p l.length cap) l W (by omega) h hwf)
    have rnfkd := Lib.hid (fun W h => rnfkd_any (.slice p l.length cap) l W (by omega) h)
    have hnfkc := Lib.hid (fun W h => hK (.slice p l.length cap) l W (by omega) h hwf)
    have rnfkc := Lib.hid (fun W h => rnfkc_any (.slice p l.length cap) l W (by omega) h)
    have hform := Lib.hid (fun W h => hF (.slice p l.length cap) l W (by omega) h hwf)
    have rform := Lib.hid (fun W h => rformIs_any (.slice p l.length cap) l W (by omega) h)
    have n1 := made_lenN l
    have n2 := safe_lenN l
    have n3 := nfkd_len l
    have n4 := nfkc_len l
    obtain ⟨A, hA⟩ : ∃ A, Nfk.madeI l = A := ⟨_, rfl⟩
    obtain ⟨B, hB⟩ : ∃ A, Nfk.safeI l 0 = A := ⟨_, rfl⟩
    obtain ⟨D, hDD⟩ : ∃ A, Nfk.nfkdI l = A := ⟨_, rfl⟩
    obtain ⟨C, hC⟩ : ∃ A, Nfk.nfkcI l = A := ⟨_, rfl⟩
    rw [hA] at hmade rmade n1
    rw [hB] at hsafe rsafe n2
    rw [hDD] at hnfkd rnfkd n3
    rw [hC] at hnfkc rnfkc hform rform n4
    obtain ⟨s, hs⟩ : ∃ s, sameB C l = s := ⟨_, rfl⟩
    rw [hs] at hform rform
    clear hA hB hDD hC hs hwf hM hS hD hK hF
    go_enter Tryd.func3, Tryd.ntmps3
    go_wp2_with fail
    refine (hawake.out _).mono ?_
    rintro e w1 ⟨rfl, q1⟩
    have b1 := Lib.hid q1
    clear q1
    go_wp2_with fail
    refine (hmade.out _ (ri_below hri.out b1.out)).mono ?_
    rintro e w2 ⟨v_xmade, rfl, xmade, q2⟩
    replace xmade := Lib.hid xmade
    have b2 := Lib.hid (below_on b1.out q2)
    clear q2
    go_wp2_with fail
    refine (rmade.out _ (ri_below hri.out b2.out)).mono ?_
    rintro e w3 ⟨v_ymade, rfl, ymade, q3⟩
    replace ymade := ri_of_own ymade
    replace ymade := Lib.hid ymade
    replace xmade := Lib.hid (ri_below xmade.out q3)
    have b3 := Lib.hid (below_on b2.out q3)
    clear q3
    go_wp2_with fail
    refine (same_self _ _ A _ (by omega) xmade.out ymade.out).mono ?_
    rintro e w4 ⟨rfl, q4⟩
    replace xmade := Lib.hid (ri_below xmade.out q4)
    replace ymade := Lib.hid (ri_below ymade.out q4)
    have b4 := Lib.hid (below_on b3.out q4)
    clear q4
    clear xmade ymade
    go_wp2_with fail
    refine (hsafe.out _ (ri_below hri.out b4.out)).mono ?_
    rintro e w5 ⟨v_xsafe, rfl, xsafe, q5⟩
    replace xsafe := Lib.hid xsafe
    have b5 := Lib.hid (below_on b4.out q5)
    clear q5
    go_wp2_with fail
    refine (rsafe.out _ (ri_below hri.out b5.out)).mono ?_
    rintro e w6 ⟨v_ysafe, rfl, ysafe, q6⟩
    replace ysafe := ri_of_own ysafe
    replace ysafe := Lib.hid ysafe
    replace xsafe := Lib.hid (ri_below xsafe.out q6)
    have b6 := Lib.hid (below_on b5.out q6)
    clear q6
    go_wp2_with fail
    refine (same_self _ _ B _ (by omega) xsafe.out ysafe.out).mono ?_
    rintro e w7 ⟨rfl, q7⟩
    replace xsafe := Lib.hid (ri_below xsafe.out q7)
    replace ysafe := Lib.hid (ri_below ysafe.out q7)
    have b7 := Lib.hid (below_on b6.out q7)
    clear q7
    clear xsafe ysafe
    go_wp2_with fail
    refine (hnfkd.out _ (ri_below hri.out b7.out)).mono ?_
    rintro e w8 ⟨v_xnfkd, rfl, xnfkd, q8⟩
    replace xnfkd := Lib.hid xnfkd
    have b8 := Lib.hid (below_on b7.out q8)
    clear q8
    go_wp2_with fail
    refine (rnfkd.out _ (ri_below hri.out b8.out)).mono ?_
    rintro e w9 ⟨v_ynfkd, rfl, ynfkd, q9⟩
    replace ynfkd := ri_of_own ynfkd
    replace ynfkd := Lib.hid ynfkd
    replace xnfkd := Lib.hid (ri_below xnfkd.out q9)
    have b9 := Lib.hid (below_on b8.out q9)
    clear q9
    go_wp2_with fail
    refine (same_self _ _ D _ (by omega) xnfkd.out ynfkd.out).mono ?_
    rintro e w10 ⟨rfl, q10⟩
    replace xnfkd := Lib.hid (ri_below xnfkd.out q10)
    replace ynfkd := Lib.hid (ri_below ynfkd.out q10)
    have b10 := Lib.hid (below_on b9.out q10)
    clear q10
    clear xnfkd ynfkd
    go_wp2_with fail
    refine (hnfkc.out _ (ri_below hri.out b10.out)).mono ?_
    rintro e w11 ⟨v_xnfkc, rfl, xnfkc, q11⟩
    replace xnfkc := Lib.hid xnfkc
    have b11 := Lib.hid (below_on b10.out q11)
    clear q11
    go_wp2_with fail
    refine (rnfkc.out _ (ri_below hri.out b11.out)).mono ?_
    rintro e w12 ⟨v_ynfkc, rfl, ynfkc, q12⟩
    replace ynfkc := ri_of_own ynfkc
    replace ynfkc := Lib.hid ynfkc
    replace xnfkc := Lib.hid (ri_below xnfkc.out q12)
    have b12 := Lib.hid (below_on b11.out q12)
    clear q12
    go_wp2_with fail
    refine (same_self _ _ C _ (by omega) xnfkc.out ynfkc.out).mono ?_
    rintro e w13 ⟨rfl, q13⟩
    replace xnfkc := Lib.hid (ri_below xnfkc.out q13)
    replace ynfkc := Lib.hid (ri_below ynfkc.out q13)
    have b13 := Lib.hid (below_on b12.out q13)
    clear q13
    clear xnfkc ynfkc
    go_wp2_with fail
    refine (hform.out _ (ri_below hri.out b13.out)).mono ?_
    rintro e w14 ⟨rfl, q14⟩
    have b14 := Lib.hid (below_on b13.out q14)
    clear q14
    go_wp2_with fail
    refine (rform.out _ (ri_below hri.out b14.out)).mono ?_
    rintro e w15 ⟨rfl, q15⟩
    have b15 := Lib.hid (below_on b14.out q15)
    clear q15
    have hqq : (s == s) = true := by simp
    go_wp2_with fail
    go_ret
    exact ⟨rfl, b15.out⟩
  · skip
    have hl' : decide ((100 : Int) < (l.length : Int)) = true := decide_eq_true (by omega)
    clear hwf hM hS hD hK hF
    go_enter Tryd.func3, Tryd.ntmps3
    go_wp2_with fail
    refine (hawake.out w).mono ?_
    rintro e w1 ⟨rfl, hb1⟩
    replace hb1 := Lib.hid hb1
    go_wp2_with fail
    go_ret
    exact ⟨rfl, hb1.out⟩

set_option maxHeartbeats 3200000 in
set_option maxRecDepth 100000 in
theorem nfkcOnce_walk (hM : MadeC) (hS : SafeC) (hD : NfkdC) (hK : NfkcC) (hF : FormC) (v : Value) (l : List Int) (w : World) (hv : RI w v l ∧ WfI l) :
    Calls Tryd.prog 4 #[v] w fun e w' => e = .returned (.bool true) ∧ Below w.heap.size w w' := by
  obtain ⟨hri, hwf⟩ := hv
  obtain ⟨p, cap, rfl⟩ := ri_form hri
  have hawake := Lib.hid (awake8 hM hK hF)
  replace hri := Lib.hid hri
  by_cases hl : l.length ≤ 60
  · have hl' : decide (60 < l.length) = false := decide_eq_false (by omega)
    have n1 := made_lenN l
    have n3 := nfkd_len l
    have n4 := nfkc_len l
    have hc := Lib.hid (fun W => nfkc_of hK (v := .slice p l.length cap) (w := W) rfl (by omega) hwf)
    have hd := Lib.hid (fun W => nfkd_of hD (v := .slice p l.length cap) (w := W) rfl (by omega) hwf)
    have hm := Lib.hid (fun W => made_of hM (v := .slice p l.length cap) (w := W) rfl (by omega) hwf)
    have hic := Lib.hid (fun V W => form_yes hF (v := V) (w := W) (Nfk.nfkc_nfkc l) (by omega) (wf_nfkc hwf))
    have hcd := Lib.hid (fun V W => nfkc_of hK (v := V) (w := W) (Nfk.nfkc_nfkd l) (by omega) (wf_nfkd hwf))
    have hdc := Lib.hid (fun V W => nfkd_of hD (v := V) (w := W) (Nfk.nfkd_nfkc l) (by omega) (wf_nfkc hwf))
    have hdd := Lib.hid (fun V W => nfkd_of hD (v := V) (w := W) (Nfk.nfkd_nfkd l) (by omega) (wf_nfkd hwf))
    have hcm := Lib.hid (fun V W => nfkc_of hK (v := V) (w := W) (Nfk.nfkc_made l) (by omega) (wf_madeN hwf))
    obtain ⟨A, hA⟩ : ∃ A, Nfk.madeI l = A := ⟨_, rfl⟩
    obtain ⟨D, hDD⟩ : ∃ A, Nfk.nfkdI l = A := ⟨_, rfl⟩
    obtain ⟨C, hC⟩ : ∃ A, Nfk.nfkcI l = A := ⟨_, rfl⟩
    rw [hA] at hm hcm n1
    rw [hDD] at hd hcd hdc hdd n3
    rw [hC] at hc hic hcd hdc hcm n4
    clear hA hDD hC hwf hM hS hD hK hF
    go_enter Tryd.func4, Tryd.ntmps4
    go_wp2_with fail
    refine (hawake.out _).mono ?_
    rintro e w1 ⟨rfl, q1⟩
    have b1 := Lib.hid q1
    clear q1
    go_wp2_with fail
    refine (hc.out _ (ri_below hri.out b1.out)).mono ?_
    rintro e w2 ⟨v_rc, rfl, rc, q2⟩
    replace rc := Lib.hid rc
    have b2 := Lib.hid (below_on b1.out q2)
    clear q2
    go_wp2_with fail
    refine (hd.out _ (ri_below hri.out b2.out)).mono ?_
    rintro e w3 ⟨v_rd, rfl, rd, q3⟩
    replace rd := Lib.hid rd
    replace rc := Lib.hid (ri_below rc.out q3)
    have b3 := Lib.hid (below_on b2.out q3)
    clear q3
    go_wp2_with fail
    refine (hic.out _ _ rc.out).mono ?_
    rintro e w4 ⟨rfl, q4⟩
    replace rc := Lib.hid (ri_below rc.out q4)
    replace rd := Lib.hid (ri_below rd.out q4)
    have b4 := Lib.hid (below_on b3.out q4)
    clear q4
    go_wp2_with fail
    refine (hcd.out _ _ rd.out).mono ?_
    rintro e w5 ⟨v_x1, rfl, x1, q5⟩
    replace x1 := Lib.hid x1
    replace rc := Lib.hid (ri_below rc.out q5)
    replace rd := Lib.hid (ri_below rd.out q5)
    have b5 := Lib.hid (below_on b4.out q5)
    clear q5
    go_wp2_with fail
    refine (same_self _ _ C _ (by omega) x1.out rc.out).mono ?_
    rintro e w6 ⟨rfl, q6⟩
    replace rc := Lib.hid (ri_below rc.out q6)
    replace rd := Lib.hid (ri_below rd.out q6)
    replace x1 := Lib.hid (ri_below x1.out q6)
    have b6 := Lib.hid (below_on b5.out q6)
    clear q6
    clear x1
    go_wp2_with fail
    refine (hdc.out _ _ rc.out).mono ?_
    rintro e w7 ⟨v_x2, rfl, x2, q7⟩
    replace x2 := Lib.hid x2
    replace rc := Lib.hid (ri_below rc.out q7)
    replace rd := Lib.hid (ri_below rd.out q7)
    have b7 := Lib.hid (below_on b6.out q7)
    clear q7
    go_wp2_with fail
    refine (same_self _ _ D _ (by omega) x2.out rd.out).mono ?_
    rintro e w8 ⟨rfl, q8⟩
    replace rc := Lib.hid (ri_below rc.out q8)
    replace rd := Lib.hid (ri_below rd.out q8)
    replace x2 := Lib.hid (ri_below x2.out q8)
    have b8 := Lib.hid (below_on b7.out q8)
    clear q8
    clear x2
    go_wp2_with fail
    refine (hdd.out _ _ rd.out).mono ?_
    rintro e w9 ⟨v_x3, rfl, x3, q9⟩
    replace x3 := Lib.hid x3
    replace rc := Lib.hid (ri_below rc.out q9)
    replace rd := Lib.hid (ri_below rd.out q9)
    have b9 := Lib.hid (below_on b8.out q9)
    clear q9
    go_wp2_with fail
    refine (same_self _ _ D _ (by omega) x3.out rd.out).mono ?_
    rintro e w10 ⟨rfl, q10⟩
    replace rc := Lib.hid (ri_below rc.out q10)
    replace rd := Lib.hid (ri_below rd.out q10)
    replace x3 := Lib.hid (ri_below x3.out q10)
    have b10 := Lib.hid (below_on b9.out q10)
    clear q10
    clear x3
    go_wp2_with fail
    refine (hm.out _ (ri_below hri.out b10.out)).mono ?_
    rintro e w11 ⟨v_rm, rfl, rm, q11⟩
    replace rm := Lib.hid rm
    replace rc := Lib.hid (ri_below rc.out q11)
    replace rd := Lib.hid (ri_below rd.out q11)
    have b11 := Lib.hid (below_on b10.out q11)
    clear q11
    go_wp2_with fail
    refine (hcm.out _ _ rm.out).mono ?_
    rintro e w12 ⟨v_x4, rfl, x4, q12⟩
    replace x4 := Lib.hid x4
    replace rc := Lib.hid (ri_below rc.out q12)
    replace rd := Lib.hid (ri_below rd.out q12)
    replace rm := Lib.hid (ri_below rm.out q12)
    have b12 := Lib.hid (below_on b11.out q12)
    clear q12
    go_wp2_with fail
    refine (same_self _ _ C _ (by omega) x4.out rc.out).mono ?_
    rintro e w13 ⟨rfl, q13⟩
    replace rc := Lib.hid (ri_below rc.out q13)
    replace rd := Lib.hid (ri_below rd.out q13)
    replace rm := Lib.hid (ri_below rm.out q13)
    replace x4 := Lib.hid (ri_below x4.out q13)
    have b13 := Lib.hid (below_on b12.out q13)
    clear q13
    go_wp2_with fail
    go_ret
    exact ⟨rfl, b13.out⟩
  · skip
    have hl' : decide ((60 : Int) < (l.length : Int)) = true := decide_eq_true (by omega)
    clear hwf hM hS hD hK hF
    go_enter Tryd.func4, Tryd.ntmps4
    go_wp2_with fail
    refine (hawake.out w).mono ?_
    rintro e w1 ⟨rfl, hb1⟩
    replace hb1 := Lib.hid hb1
    go_wp2_with fail
    go_ret
    exact ⟨rfl, hb1.out⟩

end Go.Proofs.YtgilifcpmnbhjaaDoor
