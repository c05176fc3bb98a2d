/- Layer 8: the walk of NfkcAlike. -/
import Derived.Test.YtgilifcpmnbhjaaDoorNfW0
import Derived.Test.YtgilifcpmnbhjaaDoorDeP
import Derived.Test.YtgilifcpmnbhjaaDoorPrP
import Derived.Test.YtgilifcpmnbhjaaDoorBasP
import Derived.Deep.LoopGhost
import Derived.Deep.DeepCutAuto
namespace Go.Proofs.YtgilifcpmnbhjaaDoor
set_option linter.unusedSimpArgs false
set_option linter.unusedVariables false
open Go.RowKit Go.Lib

set_option maxHeartbeats 6400000 in
set_option maxRecDepth 100000 in
theorem nfkcAlike_walk (hM : MadeC) (hK : NfkcC) (hF : FormC) (hR : MarksC) (hFu : FullC) (hI : IsC) (v : Value) (l : List Int) (k a b : Int) (w : World) (hv : RI w v l ∧ WfI l) (_ : -9223372036854775808 ≤ k ∧ k ≤ 9223372036854775807) (hab : -9223372036854775808 ≤ a ∧ a ≤ 9223372036854775807) (hbb : -9223372036854775808 ≤ b ∧ b ≤ 9223372036854775807) :
    Calls Tryd.prog 6 #[v, .int .i64 k, .int .i64 a, .int .i64 b] w fun e w' => e = .returned (.bool true) ∧ Below w.heap.size w w' := by
  obtain ⟨hri, hwf⟩ := hv
  obtain ⟨p, cap, rfl⟩ := ri_form hri
  obtain ⟨i0, hi, hz0, hz1, hz2⟩ := info_parts info_i
  have hawake := Lib.hid (awake8 hM hK hF)
  have hcap := (ri_cap hri).2.1
  replace hri := Lib.hid hri
  by_cases hl : l.length ≤ 25 ∧ 0 < l.length
  · obtain ⟨hl25, hlp⟩ := hl
    have hl' : decide (25 < l.length) = false := decide_eq_false (by omega)
    have hnz : ¬ l.length = 0 := by omega
    have hnz' : ((l.length : Int) == 0) = false := beq_eq_false_iff_ne.2 (by omega)
    obtain ⟨i, hand, hin⟩ : ∃ i : Nat, (bits .and .i64 k 65535).tmod (l.length : Int) = (i : Int) ∧ i < l.length := by
      have h0 : 0 ≤ k % 65536 % (l.length : Int) := Int.emod_nonneg _ (by omega)
      have h1 : k % 65536 % (l.length : Int) < l.length := Int.emod_lt_of_pos _ (by omega)
      refine ⟨(k % 65536 % (l.length : Int)).toNat, ?_, by omega⟩
      rw [and65535, Int.tmod_eq_emod_of_nonneg (by omega)]
      omega
    obtain ⟨bb, off, rfl, hbl, hcell⟩ := ri_at hri.out (by omega)
    have hc := Lib.hid (hcell i hin)
    have hsplit : l.take i ++ l[i] :: l.drop (i + 1) = l := by rw [← List.drop_eq_getElem_cons, List.take_append_drop]
    have hone := Nfk.alike_one (l.take i) (l.drop (i + 1)) l[i]
    rw [hsplit] at hone
    have hwx := hwf _ (List.getElem_mem hin)
    have hfl := (Dcp.full_len l[i]).2
    have hwfu := Can.wf_full hwx
    obtain ⟨x, hx⟩ : ∃ x, l[i] = x := ⟨_, rfl⟩
    rw [hx] at hc hone hwx hfl hwfu
    have hfull := Lib.hid (fun W => hFu x W hwx)
    have htl : (l.take i).length = i := by rw [List.length_take]; omega
    have hdl : (l.drop (i + 1)).length = l.length - (i + 1) := by rw [List.length_drop]
    have hwX : WfI (l.take i ++ Dcp.fullI x ++ l.drop (i + 1)) := wfI_app (wfI_app (wfI_take hwf i) hwfu) (wfI_drop hwf (i + 1))
    have n4 := nfkc_len l
    have hkx := Lib.hid (fun V W => nfkc_of hK (v := V) (w := W) hone (by simp only [List.length_append]; omega) hwX)
    have hkl := Lib.hid (fun W => nfkc_of hK (v := .slice (some ⟨bb, off, none⟩) l.length cap) (w := W) rfl (by omega) hwf)
    obtain ⟨C, hC⟩ : ∃ A, Nfk.nfkcI l = A := ⟨_, rfl⟩
    obtain ⟨F, hFe⟩ : ∃ A, Dcp.fullI x = A := ⟨_, rfl⟩
    rw [hC] at hkx hkl n4
    rw [hFe] at hkx hfull hfl
    have hta := Lib.hid (ri_take hri.out i (by omega))
    have hic : i ≤ cap := by omega
    have hi1 : i + 1 ≤ cap := by omega
    have hi2 : i + 1 ≤ l.length := by omega
    obtain ⟨A, hA⟩ : ∃ A, l.take i = A := ⟨_, rfl⟩
    obtain ⟨B, hB⟩ : ∃ A, l.drop (i + 1) = A := ⟨_, rfl⟩
    have hdA : i + 1 < cap → RI w (.slice (some ⟨bb, off + (i + 1), none⟩) (l.length - (i + 1)) (cap - (i + 1))) B := fun _ => hB ▸ ri_from hri.out (i + 1) hi2 hlp
    rw [hA] at hkx hta htl
    rw [hB] at hkx hdl
    have hAl : A.length ≤ 25 := by omega
    have hBl : B.length ≤ 25 := by omega
    have hCl : C.length ≤ 1000 := by omega
    have hdB : cap = i + 1 → RI w (.slice (some ⟨bb, off, none⟩) 0 0) B := fun h => by
      have : B = [] := List.eq_nil_of_length_eq_zero (by omega)
      rw [this]
      exact ri_none w _ _ (fun h => by cases h)
    have hwab : WfI (l ++ [a, b]) := wfI_app hwf (wfI_cons hab (wfI_cons hbb wfI_nil))
    have hwba : WfI (l ++ [b, a]) := wfI_app hwf (wfI_cons hbb (wfI_cons hab wfI_nil))
    have hfin : Prp.mrkB a = true → Prp.mrkB b = true → (Prp.cccI a == Prp.cccI b) = false → decide ((26 : Int) < (Can.marksI (Nfk.madeI l) : Nat)) = false → (!decide (Dcp.fullI a = [a])) = false → (!decide (Dcp.fullI b = [b])) = false → Nfk.nfkcI (l ++ [b, a]) = Nfk.nfkcI (l ++ [a, b]) := by
      intro h1 h2 h3 h4 h5 h6
      have h4' := of_decide_eq_false h4
      exact (Nfk.alike_two l h1 h2 (by simpa using h3) (by simpa using h5) (by simpa using h6) (by omega)).symm
    have hma := Lib.hid (mark_of a _ rfl)
    have hmb := Lib.hid (mark_of b _ rfl)
    have hka := Lib.hid (ccc_of a _ rfl)
    have hkb := Lib.hid (ccc_of b _ rfl)
    have hia := Lib.hid (fun W => hI a W hab)
    have hib := Lib.hid (fun W => hI b W hbb)
    have hmd := Lib.hid (fun W => made_of hM (v := .slice (some ⟨bb, off, none⟩) l.length cap) (w := W) rfl (by omega) hwf)
    have hmm := Lib.hid (fun V W h => marks_of hR (v := V) (w := W) (l := Nfk.madeI l) rfl (by have := made_lenN l; omega) h (wf_madeN hwf))
    have hkp := Lib.hid (fun V W => nfkc_of hK (v := V) (w := W) (l := l ++ [a, b]) rfl (by rw [List.length_append]; simp; omega) hwab)
    have hkq := Lib.hid (fun (h : Nfk.nfkcI (l ++ [b, a]) = Nfk.nfkcI (l ++ [a, b])) V W => nfkc_of hK (v := V) (w := W) (l := l ++ [b, a]) h (by rw [List.length_append]; simp; omega) hwba)
    have n5 := nfkc_len (l ++ [a, b])
    rw [List.length_append] at n5
    obtain ⟨E, hE⟩ : ∃ x, Nfk.nfkcI (l ++ [a, b]) = x := ⟨_, rfl⟩
    obtain ⟨E2, hE2⟩ : ∃ x, Nfk.nfkcI (l ++ [b, a]) = x := ⟨_, rfl⟩
    rw [hE] at hfin hkp hkq n5
    rw [hE2] at hfin hkq
    have hEl : E.length ≤ 1000 := by simp at n5; omega
    obtain ⟨qa, hqa⟩ : ∃ x, Prp.mrkB a = x := ⟨_, rfl⟩
    obtain ⟨qb, hqb⟩ : ∃ x, Prp.mrkB b = x := ⟨_, rfl⟩
    obtain ⟨ka, hka0⟩ : ∃ x, Prp.cccI a = x := ⟨_, rfl⟩
    obtain ⟨kb, hkb0⟩ : ∃ x, Prp.cccI b = x := ⟨_, rfl⟩
    obtain ⟨ia, hia0⟩ : ∃ x, (!decide (Dcp.fullI a = [a])) = x := ⟨_, rfl⟩
    obtain ⟨ib, hib0⟩ : ∃ x, (!decide (Dcp.fullI b = [b])) = x := ⟨_, rfl⟩
    obtain ⟨m, hm0⟩ : ∃ x, Can.marksI (Nfk.madeI l) = x := ⟨_, rfl⟩
    rw [hqa] at hma hfin
    rw [hqb] at hmb hfin
    rw [hka0] at hka hfin
    rw [hkb0] at hkb hfin
    rw [hia0] at hia hfin
    rw [hib0] at hib hfin
    rw [hm0] at hmm hfin
    obtain ⟨ec, hec⟩ : ∃ x, (ka == kb) = x := ⟨_, rfl⟩
    obtain ⟨dm, hdm⟩ : ∃ x, decide ((26 : Int) < (m : Int)) = x := ⟨_, rfl⟩
    rw [hec, hdm] at hfin
    obtain ⟨M, hMM⟩ : ∃ x, Nfk.madeI l = x := ⟨_, rfl⟩
    rw [hMM] at hmd hmm
    have hsl := Lib.hid (fun W (h : Below w.heap.size w W) => ri_src (ri_below hri.out h))
    replace hfin := Lib.hid hfin
    clear hwab hwba hE hE2 hqa hqb hka0 hkb0 hia0 hib0 hm0 hMM n5 n4 hwf hab hbb hM hK hF hR hFu hI
    replace hec := Lib.hid hec
    replace hdm := Lib.hid hdm
    replace htl := Lib.hid htl
    replace hdl := Lib.hid hdl
    clear hcell hsplit hone hwx hwfu hx hwX hC hFe hA hB
    go_enter Tryd.func6, Tryd.ntmps6
    go_wp2_with fail
    refine (hawake.out w).mono ?_
    rintro e w1 ⟨rfl, hb1⟩
    replace hb1 := Lib.hid hb1
    have o1 := Lib.hid (ownI_lit w.heap.size w1 [] #[] w1.heap.size 0 rfl hb1.out.size rfl rfl (by unfold maxLen; omega))
    have b1 := Lib.hid (hb1.out.alloc hb1.out.size (.cells #[] 3))
    have s1 := Lib.hid (ri_src (ri_below hta.out b1.out))
    go_upto_region 6 with (at_builtin; refine wpList_append_src rfl _ _ 22 rfl w.heap.size 3 i0 (.int .i64 0) 8 Tryd.underlying22 hi hz0 hz1 hz2 rfl _ _ _ rfl o1.out _ _ rfl s1.out (oneCellI _) (by unfold maxLen; first | (simp; done) | (simp; omega)) (by first | (simp; done) | (simp; omega)) b1.out.size ?_; intro v2 w2 ho2 hg2; have o2 := Lib.hid (ownI_of_row (l := A) ho2 (by (try simp); try omega) (by (try simp); try omega)); have b2 := Lib.hid (below_row b1.out hg2 b1.out.size o1.out (Nat.le_refl _)); clear ho2 hg2)
    have hc2 := (b2.out.cell hbl).trans hc.out
    clear o1 b1 s1
    go_wp2_with fail
    refine (hfull.out _).mono ?_
    rintro e w3 ⟨vf, rfl, rf, q3⟩
    have o3 := Lib.hid (ownI_below o2.out q3)
    have b3 := Lib.hid (below_on b2.out q3)
    have s3 := Lib.hid (ri_src rf)
    clear rf q3 hc2
    go_upto_region 7 with (at_builtin; refine wpList_append_src rfl _ _ 22 rfl w.heap.size 3 i0 (.int .i64 0) 8 Tryd.underlying22 hi hz0 hz1 hz2 rfl _ _ _ rfl o3.out _ _ rfl s3.out (oneCellI _) (by unfold maxLen; first | (simp; done) | (simp; omega)) (by first | (simp; done) | (simp; omega)) b3.out.size ?_; intro v4 w4 ho4 hg4; have o4 := Lib.hid (ownI_of_row (l := A ++ F) ho4 (by (try simp); try omega) (by (try simp); try omega)); have b4 := Lib.hid (below_row b3.out hg4 b3.out.size o3.out (Nat.le_refl _)); clear ho4 hg4)
    rcases Nat.lt_or_ge (i + 1) cap with hlt | hge
    · have hne : ¬ cap = i + 1 := by omega
      have s5 := Lib.hid (ri_src (ri_below (hdA hlt) b4.out))
      clear hdA hdB
      go_upto_region 8 with (at_builtin; refine wpList_append_src rfl _ _ 22 rfl w.heap.size 3 i0 (.int .i64 0) 8 Tryd.underlying22 hi hz0 hz1 hz2 rfl _ _ _ rfl o4.out _ _ rfl s5.out (oneCellI _) (by unfold maxLen; first | (simp; done) | (simp; omega)) (by first | (simp; done) | (simp; omega)) b4.out.size ?_; intro v6 w6 ho6 hg6; have o6 := Lib.hid (ownI_of_row (l := A ++ F ++ B) ho6 (by (try simp); try omega) (by (try simp); try omega)); have b6 := Lib.hid (below_row b4.out hg6 b4.out.size o4.out (Nat.le_refl _)); clear ho6 hg6)
      have rx := Lib.hid (ri_of_own o6.out)
      clear o4 s5 o3 s3 b3 o2 b2
      go_wp2_with fail
      refine (hkx.out _ _ rx.out).mono ?_
      rintro e w7 ⟨v_r7, rfl, r7, q7⟩
      replace r7 := Lib.hid r7
      replace rx := Lib.hid (ri_below rx.out q7)
      have b7 := Lib.hid (below_on b6.out q7)
      clear q7
      clear rx
      go_wp2_with fail
      refine (hkl.out _ (ri_below hri.out b7.out)).mono ?_
      rintro e w8 ⟨v_r8, rfl, r8, q8⟩
      replace r8 := Lib.hid r8
      replace r7 := Lib.hid (ri_below r7.out q8)
      have b8 := Lib.hid (below_on b7.out q8)
      clear q8
      go_wp2_with fail
      refine (same_self _ _ C _ (by omega) r7.out r8.out).mono ?_
      rintro e w9 ⟨rfl, q9⟩
      replace r7 := Lib.hid (ri_below r7.out q9)
      replace r8 := Lib.hid (ri_below r8.out q9)
      have b9 := Lib.hid (below_on b8.out q9)
      clear q9
      clear r7 r8
      cases qa with
      | false =>
        go_wp2_with fail
        refine (hma.out _).mono ?_
        rintro e w10 ⟨rfl, q10⟩
        have b10 := Lib.hid (below_on b9.out q10)
        clear q10
        go_wp2_with fail
        go_ret
        exact ⟨rfl, b10.out⟩
      | true =>
      cases qb with
      | false =>
        go_wp2_with fail
        refine (hma.out _).mono ?_
        rintro e w10 ⟨rfl, q10⟩
        have b10 := Lib.hid (below_on b9.out q10)
        clear q10
        go_wp2_with fail
        refine (hmb.out _).mono ?_
        rintro e w11 ⟨rfl, q11⟩
        have b11 := Lib.hid (below_on b10.out q11)
        clear q11
        go_wp2_with fail
        go_ret
        exact ⟨rfl, b11.out⟩
      | true =>
      cases ec with
      | true =>
        have hec1 := hec.out
        go_wp2_with fail
        refine (hma.out _).mono ?_
        rintro e w10 ⟨rfl, q10⟩
        have b10 := Lib.hid (below_on b9.out q10)
        clear q10
        go_wp2_with fail
        refine (hmb.out _).mono ?_
        rintro e w11 ⟨rfl, q11⟩
        have b11 := Lib.hid (below_on b10.out q11)
        clear q11
        go_wp2_with fail
        refine (hka.out _).mono ?_
        rintro e w12 ⟨rfl, q12⟩
        have b12 := Lib.hid (below_on b11.out q12)
        clear q12
        go_wp2_with fail
        refine (hkb.out _).mono ?_
        rintro e w13 ⟨rfl, q13⟩
        have b13 := Lib.hid (below_on b12.out q13)
        clear q13
        go_wp2_with fail
        go_ret
        exact ⟨rfl, b13.out⟩
      | false =>
      have hec1 := hec.out
      cases dm with
      | true =>
        have hdm1 := hdm.out
        go_wp2_with fail
        refine (hma.out _).mono ?_
        rintro e w10 ⟨rfl, q10⟩
        have b10 := Lib.hid (below_on b9.out q10)
        clear q10
        go_wp2_with fail
        refine (hmb.out _).mono ?_
        rintro e w11 ⟨rfl, q11⟩
        have b11 := Lib.hid (below_on b10.out q11)
        clear q11
        go_wp2_with fail
        refine (hka.out _).mono ?_
        rintro e w12 ⟨rfl, q12⟩
        have b12 := Lib.hid (below_on b11.out q12)
        clear q12
        go_wp2_with fail
        refine (hkb.out _).mono ?_
        rintro e w13 ⟨rfl, q13⟩
        have b13 := Lib.hid (below_on b12.out q13)
        clear q13
        go_wp2_with fail
        refine (hmd.out _ (ri_below hri.out b13.out)).mono ?_
        rintro e w14 ⟨v_rm, rfl, rm, q14⟩
        replace rm := Lib.hid rm
        have b14 := Lib.hid (below_on b13.out q14)
        clear q14
        go_wp2_with fail
        refine (hmm.out _ _ rm.out).mono ?_
        rintro e w15 ⟨rfl, q15⟩
        replace rm := Lib.hid (ri_below rm.out q15)
        have b15 := Lib.hid (below_on b14.out q15)
        clear q15
        clear rm
        go_wp2_with fail
        go_ret
        exact ⟨rfl, b15.out⟩
      | false =>
      have hdm1 := hdm.out
      cases ia with
      | true =>
        go_wp2_with fail
        refine (hma.out _).mono ?_
        rintro e w10 ⟨rfl, q10⟩
        have b10 := Lib.hid (below_on b9.out q10)
        clear q10
        go_wp2_with fail
        refine (hmb.out _).mono ?_
        rintro e w11 ⟨rfl, q11⟩
        have b11 := Lib.hid (below_on b10.out q11)
        clear q11
        go_wp2_with fail
        refine (hka.out _).mono ?_
        rintro e w12 ⟨rfl, q12⟩
        have b12 := Lib.hid (below_on b11.out q12)
        clear q12
        go_wp2_with fail
        refine (hkb.out _).mono ?_
        rintro e w13 ⟨rfl, q13⟩
        have b13 := Lib.hid (below_on b12.out q13)
        clear q13
        go_wp2_with fail
        refine (hmd.out _ (ri_below hri.out b13.out)).mono ?_
        rintro e w14 ⟨v_rm, rfl, rm, q14⟩
        replace rm := Lib.hid rm
        have b14 := Lib.hid (below_on b13.out q14)
        clear q14
        go_wp2_with fail
        refine (hmm.out _ _ rm.out).mono ?_
        rintro e w15 ⟨rfl, q15⟩
        replace rm := Lib.hid (ri_below rm.out q15)
        have b15 := Lib.hid (below_on b14.out q15)
        clear q15
        clear rm
        go_wp2_with fail
        refine (hia.out _).mono ?_
        rintro e w16 ⟨rfl, q16⟩
        have b16 := Lib.hid (below_on b15.out q16)
        clear q16
        go_wp2_with fail
        go_ret
        exact ⟨rfl, b16.out⟩
      | false =>
      cases ib with
      | true =>
        go_wp2_with fail
        refine (hma.out _).mono ?_
        rintro e w10 ⟨rfl, q10⟩
        have b10 := Lib.hid (below_on b9.out q10)
        clear q10
        go_wp2_with fail
        refine (hmb.out _).mono ?_
        rintro e w11 ⟨rfl, q11⟩
        have b11 := Lib.hid (below_on b10.out q11)
        clear q11
        go_wp2_with fail
        refine (hka.out _).mono ?_
        rintro e w12 ⟨rfl, q12⟩
        have b12 := Lib.hid (below_on b11.out q12)
        clear q12
        go_wp2_with fail
        refine (hkb.out _).mono ?_
        rintro e w13 ⟨rfl, q13⟩
        have b13 := Lib.hid (below_on b12.out q13)
        clear q13
        go_wp2_with fail
        refine (hmd.out _ (ri_below hri.out b13.out)).mono ?_
        rintro e w14 ⟨v_rm, rfl, rm, q14⟩
        replace rm := Lib.hid rm
        have b14 := Lib.hid (below_on b13.out q14)
        clear q14
        go_wp2_with fail
        refine (hmm.out _ _ rm.out).mono ?_
        rintro e w15 ⟨rfl, q15⟩
        replace rm := Lib.hid (ri_below rm.out q15)
        have b15 := Lib.hid (below_on b14.out q15)
        clear q15
        clear rm
        go_wp2_with fail
        refine (hia.out _).mono ?_
        rintro e w16 ⟨rfl, q16⟩
        have b16 := Lib.hid (below_on b15.out q16)
        clear q16
        go_wp2_with fail
        refine (hib.out _).mono ?_
        rintro e w17 ⟨rfl, q17⟩
        have b17 := Lib.hid (below_on b16.out q17)
        clear q17
        go_wp2_with fail
        go_ret
        exact ⟨rfl, b17.out⟩
      | false =>
      have hEE := Lib.hid (hfin.out rfl rfl rfl rfl rfl rfl)
      go_wp2_with fail
      refine (hma.out _).mono ?_
      rintro e w10 ⟨rfl, q10⟩
      have b10 := Lib.hid (below_on b9.out q10)
      clear q10
      go_wp2_with fail
      refine (hmb.out _).mono ?_
      rintro e w11 ⟨rfl, q11⟩
      have b11 := Lib.hid (below_on b10.out q11)
      clear q11
      go_wp2_with fail
      refine (hka.out _).mono ?_
      rintro e w12 ⟨rfl, q12⟩
      have b12 := Lib.hid (below_on b11.out q12)
      clear q12
      go_wp2_with fail
      refine (hkb.out _).mono ?_
      rintro e w13 ⟨rfl, q13⟩
      have b13 := Lib.hid (below_on b12.out q13)
      clear q13
      go_wp2_with fail
      refine (hmd.out _ (ri_below hri.out b13.out)).mono ?_
      rintro e w14 ⟨v_rm, rfl, rm, q14⟩
      replace rm := Lib.hid rm
      have b14 := Lib.hid (below_on b13.out q14)
      clear q14
      go_wp2_with fail
      refine (hmm.out _ _ rm.out).mono ?_
      rintro e w15 ⟨rfl, q15⟩
      replace rm := Lib.hid (ri_below rm.out q15)
      have b15 := Lib.hid (below_on b14.out q15)
      clear q15
      clear rm
      go_wp2_with fail
      refine (hia.out _).mono ?_
      rintro e w16 ⟨rfl, q16⟩
      have b16 := Lib.hid (below_on b15.out q16)
      clear q16
      go_wp2_with fail
      refine (hib.out _).mono ?_
      rintro e w17 ⟨rfl, q17⟩
      have b17 := Lib.hid (below_on b16.out q17)
      clear q17
      have e20 := Lib.hid (ownI_lit w17.heap.size w17 [] #[] w17.heap.size 0 rfl (Nat.le_refl _) rfl rfl (by unfold maxLen; omega))
      have g20 := Lib.hid (below_new w17 (.cells #[] 3))
      have t20 := Lib.hid (hsl.out _ (below_on b17.out g20.out))
      go_upto_region 13 with (at_builtin; refine wpList_append_src rfl _ _ 22 rfl w17.heap.size 3 i0 (.int .i64 0) 8 Tryd.underlying22 hi hz0 hz1 hz2 rfl _ _ _ rfl e20.out _ _ rfl t20.out (oneCellI _) (by unfold maxLen; first | (simp; done) | (simp; omega)) (by first | (simp; done) | (simp; omega)) g20.out.size ?_; intro v20a w20a ho20a hg20a; have o20a := Lib.hid (ownI_of_row (l := l) ho20a (by (try simp); try omega) (by (try simp); try omega)); have b20a := Lib.hid (below_row g20.out hg20a g20.out.size e20.out (Nat.le_refl _)); clear ho20a hg20a)
      have a20b := Lib.hid (ownI_alloc o20a.out (.cells #[.int .i64 a, .int .i64 b] 3))
      have d20b := Lib.hid (b20a.out.alloc b20a.out.size (.cells #[.int .i64 a, .int .i64 b] 3))
      have s20b := Lib.hid (ri_src (ri_of_own (ownI_lit w17.heap.size w20a [a, b] #[.int .i64 a, .int .i64 b] w20a.heap.size 2 rfl b20a.out.size rfl rfl (by unfold maxLen; omega))))
      go_upto_region 14 with (at_builtin; refine wpList_append_src rfl _ _ 22 rfl w17.heap.size 3 i0 (.int .i64 0) 8 Tryd.underlying22 hi hz0 hz1 hz2 rfl _ _ _ rfl a20b.out _ _ rfl s20b.out (oneCellI _) (by unfold maxLen; first | (simp; done) | (simp; omega)) (by first | (simp; done) | (simp; omega)) d20b.out.size ?_; intro v20b w20b ho20b hg20b; have o20b := Lib.hid (ownI_of_row (l := l ++ [a, b]) ho20b (by (try simp); try omega) (by (try simp); try omega)); have b20b := Lib.hid (below_row d20b.out hg20b d20b.out.size a20b.out (Nat.le_refl _)); clear ho20b hg20b)
      have rp := Lib.hid (ri_of_own o20b.out)
      have bp := Lib.hid (below_on b17.out b20b.out)
      have e21 := Lib.hid (ownI_lit w20b.heap.size w20b [] #[] w20b.heap.size 0 rfl (Nat.le_refl _) rfl rfl (by unfold maxLen; omega))
      have g21 := Lib.hid (below_new w20b (.cells #[] 3))
      have t21 := Lib.hid (hsl.out _ (below_on bp.out g21.out))
      go_upto_region 15 with (at_builtin; refine wpList_append_src rfl _ _ 22 rfl w20b.heap.size 3 i0 (.int .i64 0) 8 Tryd.underlying22 hi hz0 hz1 hz2 rfl _ _ _ rfl e21.out _ _ rfl t21.out (oneCellI _) (by unfold maxLen; first | (simp; done) | (simp; omega)) (by first | (simp; done) | (simp; omega)) g21.out.size ?_; intro v21a w21a ho21a hg21a; have o21a := Lib.hid (ownI_of_row (l := l) ho21a (by (try simp); try omega) (by (try simp); try omega)); have b21a := Lib.hid (below_row g21.out hg21a g21.out.size e21.out (Nat.le_refl _)); clear ho21a hg21a)
      have a21b := Lib.hid (ownI_alloc o21a.out (.cells #[.int .i64 b, .int .i64 a] 3))
      have d21b := Lib.hid (b21a.out.alloc b21a.out.size (.cells #[.int .i64 b, .int .i64 a] 3))
      have s21b := Lib.hid (ri_src (ri_of_own (ownI_lit w20b.heap.size w21a [b, a] #[.int .i64 b, .int .i64 a] w21a.heap.size 2 rfl b21a.out.size rfl rfl (by unfold maxLen; omega))))
      go_upto_region 16 with (at_builtin; refine wpList_append_src rfl _ _ 22 rfl w20b.heap.size 3 i0 (.int .i64 0) 8 Tryd.underlying22 hi hz0 hz1 hz2 rfl _ _ _ rfl a21b.out _ _ rfl s21b.out (oneCellI _) (by unfold maxLen; first | (simp; done) | (simp; omega)) (by first | (simp; done) | (simp; omega)) d21b.out.size ?_; intro v21b w21b ho21b hg21b; have o21b := Lib.hid (ownI_of_row (l := l ++ [b, a]) ho21b (by (try simp); try omega) (by (try simp); try omega)); have b21b := Lib.hid (below_row d21b.out hg21b d21b.out.size a21b.out (Nat.le_refl _)); clear ho21b hg21b)
      have rq := Lib.hid (ri_of_own o21b.out)
      have bq := Lib.hid (below_on bp.out b21b.out)
      replace rp := Lib.hid (ri_below rp.out b21b.out)
      go_wp2_with fail
      refine (hkp.out _ _ rp.out).mono ?_
      rintro e w31 ⟨v_r31, rfl, r31, q31⟩
      replace r31 := Lib.hid r31
      replace rp := Lib.hid (ri_below rp.out q31)
      replace rq := Lib.hid (ri_below rq.out q31)
      have b31 := Lib.hid (below_on bq.out q31)
      clear q31
      go_wp2_with fail
      refine (hkq.out (by rw [hEE.out]) _ _ rq.out).mono ?_
      rintro e w32 ⟨v_r32, rfl, r32, q32⟩
      replace r32 := Lib.hid r32
      replace rp := Lib.hid (ri_below rp.out q32)
      replace rq := Lib.hid (ri_below rq.out q32)
      replace r31 := Lib.hid (ri_below r31.out q32)
      have b32 := Lib.hid (below_on b31.out q32)
      clear q32
      go_wp2_with fail
      refine (same_self _ _ E _ (by omega) r31.out r32.out).mono ?_
      rintro e w33 ⟨rfl, q33⟩
      replace rp := Lib.hid (ri_below rp.out q33)
      replace rq := Lib.hid (ri_below rq.out q33)
      replace r31 := Lib.hid (ri_below r31.out q33)
      replace r32 := Lib.hid (ri_below r32.out q33)
      have b33 := Lib.hid (below_on b32.out q33)
      clear q33
      go_wp2_with fail
      go_ret
      exact ⟨rfl, b33.out⟩
    · have hcp : cap = i + 1 := by omega
      have s5 := Lib.hid (ri_src (ri_below (hdB hcp) b4.out))
      clear hdA hdB
      subst hcp
      go_upto_region 8 with (at_builtin; refine wpList_append_src rfl _ _ 22 rfl w.heap.size 3 i0 (.int .i64 0) 8 Tryd.underlying22 hi hz0 hz1 hz2 rfl _ _ _ rfl o4.out _ _ rfl s5.out (oneCellI _) (by unfold maxLen; first | (simp; done) | (simp; omega)) (by first | (simp; done) | (simp; omega)) b4.out.size ?_; intro v6 w6 ho6 hg6; have o6 := Lib.hid (ownI_of_row (l := A ++ F ++ B) ho6 (by (try simp); try omega) (by (try simp); try omega)); have b6 := Lib.hid (below_row b4.out hg6 b4.out.size o4.out (Nat.le_refl _)); clear ho6 hg6)
      have rx := Lib.hid (ri_of_own o6.out)
      clear o4 s5 o3 s3 b3 o2 b2
      go_wp2_with fail
      refine (hkx.out _ _ rx.out).mono ?_
      rintro e w7 ⟨v_r7, rfl, r7, q7⟩
      replace r7 := Lib.hid r7
      replace rx := Lib.hid (ri_below rx.out q7)
      have b7 := Lib.hid (below_on b6.out q7)
      clear q7
      clear rx
      go_wp2_with fail
      refine (hkl.out _ (ri_below hri.out b7.out)).mono ?_
      rintro e w8 ⟨v_r8, rfl, r8, q8⟩
      replace r8 := Lib.hid r8
      replace r7 := Lib.hid (ri_below r7.out q8)
      have b8 := Lib.hid (below_on b7.out q8)
      clear q8
      go_wp2_with fail
      refine (same_self _ _ C _ (by omega) r7.out r8.out).mono ?_
      rintro e w9 ⟨rfl, q9⟩
      replace r7 := Lib.hid (ri_below r7.out q9)
      replace r8 := Lib.hid (ri_below r8.out q9)
      have b9 := Lib.hid (below_on b8.out q9)
      clear q9
      clear r7 r8
      cases qa with
      | false =>
        go_wp2_with fail
        refine (hma.out _).mono ?_
        rintro e w10 ⟨rfl, q10⟩
        have b10 := Lib.hid (below_on b9.out q10)
        clear q10
        go_wp2_with fail
        go_ret
        exact ⟨rfl, b10.out⟩
      | true =>
      cases qb with
      | false =>
        go_wp2_with fail
        refine (hma.out _).mono ?_
        rintro e w10 ⟨rfl, q10⟩
        have b10 := Lib.hid (below_on b9.out q10)
        clear q10
        go_wp2_with fail
        refine (hmb.out _).mono ?_
        rintro e w11 ⟨rfl, q11⟩
        have b11 := Lib.hid (below_on b10.out q11)
        clear q11
        go_wp2_with fail
        go_ret
        exact ⟨rfl, b11.out⟩
      | true =>
      cases ec with
      | true =>
        have hec1 := hec.out
        go_wp2_with fail
        refine (hma.out _).mono ?_
        rintro e w10 ⟨rfl, q10⟩
        have b10 := Lib.hid (below_on b9.out q10)
        clear q10
        go_wp2_with fail
        refine (hmb.out _).mono ?_
        rintro e w11 ⟨rfl, q11⟩
        have b11 := Lib.hid (below_on b10.out q11)
        clear q11
        go_wp2_with fail
        refine (hka.out _).mono ?_
        rintro e w12 ⟨rfl, q12⟩
        have b12 := Lib.hid (below_on b11.out q12)
        clear q12
        go_wp2_with fail
        refine (hkb.out _).mono ?_
        rintro e w13 ⟨rfl, q13⟩
        have b13 := Lib.hid (below_on b12.out q13)
        clear q13
        go_wp2_with fail
        go_ret
        exact ⟨rfl, b13.out⟩
      | false =>
      have hec1 := hec.out
      cases dm with
      | true =>
        have hdm1 := hdm.out
        go_wp2_with fail
        refine (hma.out _).mono ?_
        rintro e w10 ⟨rfl, q10⟩
        have b10 := Lib.hid (below_on b9.out q10)
        clear q10
        go_wp2_with fail
        refine (hmb.out _).mono ?_
        rintro e w11 ⟨rfl, q11⟩
        have b11 := Lib.hid (below_on b10.out q11)
        clear q11
        go_wp2_with fail
        refine (hka.out _).mono ?_
        rintro e w12 ⟨rfl, q12⟩
        have b12 := Lib.hid (below_on b11.out q12)
        clear q12
        go_wp2_with fail
        refine (hkb.out _).mono ?_
        rintro e w13 ⟨rfl, q13⟩
        have b13 := Lib.hid (below_on b12.out q13)
        clear q13
        go_wp2_with fail
        refine (hmd.out _ (ri_below hri.out b13.out)).mono ?_
        rintro e w14 ⟨v_rm, rfl, rm, q14⟩
        replace rm := Lib.hid rm
        have b14 := Lib.hid (below_on b13.out q14)
        clear q14
        go_wp2_with fail
        refine (hmm.out _ _ rm.out).mono ?_
        rintro e w15 ⟨rfl, q15⟩
        replace rm := Lib.hid (ri_below rm.out q15)
        have b15 := Lib.hid (below_on b14.out q15)
        clear q15
        clear rm
        go_wp2_with fail
        go_ret
        exact ⟨rfl, b15.out⟩
      | false =>
      have hdm1 := hdm.out
      cases ia with
      | true =>
        go_wp2_with fail
        refine (hma.out _).mono ?_
        rintro e w10 ⟨rfl, q10⟩
        have b10 := Lib.hid (below_on b9.out q10)
        clear q10
        go_wp2_with fail
        refine (hmb.out _).mono ?_
        rintro e w11 ⟨rfl, q11⟩
        have b11 := Lib.hid (below_on b10.out q11)
        clear q11
        go_wp2_with fail
        refine (hka.out _).mono ?_
        rintro e w12 ⟨rfl, q12⟩
        have b12 := Lib.hid (below_on b11.out q12)
        clear q12
        go_wp2_with fail
        refine (hkb.out _).mono ?_
        rintro e w13 ⟨rfl, q13⟩
        have b13 := Lib.hid (below_on b12.out q13)
        clear q13
        go_wp2_with fail
        refine (hmd.out _ (ri_below hri.out b13.out)).mono ?_
        rintro e w14 ⟨v_rm, rfl, rm, q14⟩
        replace rm := Lib.hid rm
        have b14 := Lib.hid (below_on b13.out q14)
        clear q14
        go_wp2_with fail
        refine (hmm.out _ _ rm.out).mono ?_
        rintro e w15 ⟨rfl, q15⟩
        replace rm := Lib.hid (ri_below rm.out q15)
        have b15 := Lib.hid (below_on b14.out q15)
        clear q15
        clear rm
        go_wp2_with fail
        refine (hia.out _).mono ?_
        rintro e w16 ⟨rfl, q16⟩
        have b16 := Lib.hid (below_on b15.out q16)
        clear q16
        go_wp2_with fail
        go_ret
        exact ⟨rfl, b16.out⟩
      | false =>
      cases ib with
      | true =>
        go_wp2_with fail
        refine (hma.out _).mono ?_
        rintro e w10 ⟨rfl, q10⟩
        have b10 := Lib.hid (below_on b9.out q10)
        clear q10
        go_wp2_with fail
        refine (hmb.out _).mono ?_
        rintro e w11 ⟨rfl, q11⟩
        have b11 := Lib.hid (below_on b10.out q11)
        clear q11
        go_wp2_with fail
        refine (hka.out _).mono ?_
        rintro e w12 ⟨rfl, q12⟩
        have b12 := Lib.hid (below_on b11.out q12)
        clear q12
        go_wp2_with fail
        refine (hkb.out _).mono ?_
        rintro e w13 ⟨rfl, q13⟩
        have b13 := Lib.hid (below_on b12.out q13)
        clear q13
        go_wp2_with fail
        refine (hmd.out _ (ri_below hri.out b13.out)).mono ?_
        rintro e w14 ⟨v_rm, rfl, rm, q14⟩
        replace rm := Lib.hid rm
        have b14 := Lib.hid (below_on b13.out q14)
        clear q14
        go_wp2_with fail
        refine (hmm.out _ _ rm.out).mono ?_
        rintro e w15 ⟨rfl, q15⟩
        replace rm := Lib.hid (ri_below rm.out q15)
        have b15 := Lib.hid (below_on b14.out q15)
        clear q15
        clear rm
        go_wp2_with fail
        refine (hia.out _).mono ?_
        rintro e w16 ⟨rfl, q16⟩
        have b16 := Lib.hid (below_on b15.out q16)
        clear q16
        go_wp2_with fail
        refine (hib.out _).mono ?_
        rintro e w17 ⟨rfl, q17⟩
        have b17 := Lib.hid (below_on b16.out q17)
        clear q17
        go_wp2_with fail
        go_ret
        exact ⟨rfl, b17.out⟩
      | false =>
      have hEE := Lib.hid (hfin.out rfl rfl rfl rfl rfl rfl)
      go_wp2_with fail
      refine (hma.out _).mono ?_
      rintro e w10 ⟨rfl, q10⟩
      have b10 := Lib.hid (below_on b9.out q10)
      clear q10
      go_wp2_with fail
      refine (hmb.out _).mono ?_
      rintro e w11 ⟨rfl, q11⟩
      have b11 := Lib.hid (below_on b10.out q11)
      clear q11
      go_wp2_with fail
      refine (hka.out _).mono ?_
      rintro e w12 ⟨rfl, q12⟩
      have b12 := Lib.hid (below_on b11.out q12)
      clear q12
      go_wp2_with fail
      refine (hkb.out _).mono ?_
      rintro e w13 ⟨rfl, q13⟩
      have b13 := Lib.hid (below_on b12.out q13)
      clear q13
      go_wp2_with fail
      refine (hmd.out _ (ri_below hri.out b13.out)).mono ?_
      rintro e w14 ⟨v_rm, rfl, rm, q14⟩
      replace rm := Lib.hid rm
      have b14 := Lib.hid (below_on b13.out q14)
      clear q14
      go_wp2_with fail
      refine (hmm.out _ _ rm.out).mono ?_
      rintro e w15 ⟨rfl, q15⟩
      replace rm := Lib.hid (ri_below rm.out q15)
      have b15 := Lib.hid (below_on b14.out q15)
      clear q15
      clear rm
      go_wp2_with fail
      refine (hia.out _).mono ?_
      rintro e w16 ⟨rfl, q16⟩
      have b16 := Lib.hid (below_on b15.out q16)
      clear q16
      go_wp2_with fail
      refine (hib.out _).mono ?_
      rintro e w17 ⟨rfl, q17⟩
      have b17 := Lib.hid (below_on b16.out q17)
      clear q17
      have e20 := Lib.hid (ownI_lit w17.heap.size w17 [] #[] w17.heap.size 0 rfl (Nat.le_refl _) rfl rfl (by unfold maxLen; omega))
      have g20 := Lib.hid (below_new w17 (.cells #[] 3))
      have t20 := Lib.hid (hsl.out _ (below_on b17.out g20.out))
      go_upto_region 13 with (at_builtin; refine wpList_append_src rfl _ _ 22 rfl w17.heap.size 3 i0 (.int .i64 0) 8 Tryd.underlying22 hi hz0 hz1 hz2 rfl _ _ _ rfl e20.out _ _ rfl t20.out (oneCellI _) (by unfold maxLen; first | (simp; done) | (simp; omega)) (by first | (simp; done) | (simp; omega)) g20.out.size ?_; intro v20a w20a ho20a hg20a; have o20a := Lib.hid (ownI_of_row (l := l) ho20a (by (try simp); try omega) (by (try simp); try omega)); have b20a := Lib.hid (below_row g20.out hg20a g20.out.size e20.out (Nat.le_refl _)); clear ho20a hg20a)
      have a20b := Lib.hid (ownI_alloc o20a.out (.cells #[.int .i64 a, .int .i64 b] 3))
      have d20b := Lib.hid (b20a.out.alloc b20a.out.size (.cells #[.int .i64 a, .int .i64 b] 3))
      have s20b := Lib.hid (ri_src (ri_of_own (ownI_lit w17.heap.size w20a [a, b] #[.int .i64 a, .int .i64 b] w20a.heap.size 2 rfl b20a.out.size rfl rfl (by unfold maxLen; omega))))
      go_upto_region 14 with (at_builtin; refine wpList_append_src rfl _ _ 22 rfl w17.heap.size 3 i0 (.int .i64 0) 8 Tryd.underlying22 hi hz0 hz1 hz2 rfl _ _ _ rfl a20b.out _ _ rfl s20b.out (oneCellI _) (by unfold maxLen; first | (simp; done) | (simp; omega)) (by first | (simp; done) | (simp; omega)) d20b.out.size ?_; intro v20b w20b ho20b hg20b; have o20b := Lib.hid (ownI_of_row (l := l ++ [a, b]) ho20b (by (try simp); try omega) (by (try simp); try omega)); have b20b := Lib.hid (below_row d20b.out hg20b d20b.out.size a20b.out (Nat.le_refl _)); clear ho20b hg20b)
      have rp := Lib.hid (ri_of_own o20b.out)
      have bp := Lib.hid (below_on b17.out b20b.out)
      have e21 := Lib.hid (ownI_lit w20b.heap.size w20b [] #[] w20b.heap.size 0 rfl (Nat.le_refl _) rfl rfl (by unfold maxLen; omega))
      have g21 := Lib.hid (below_new w20b (.cells #[] 3))
      have t21 := Lib.hid (hsl.out _ (below_on bp.out g21.out))
      go_upto_region 15 with (at_builtin; refine wpList_append_src rfl _ _ 22 rfl w20b.heap.size 3 i0 (.int .i64 0) 8 Tryd.underlying22 hi hz0 hz1 hz2 rfl _ _ _ rfl e21.out _ _ rfl t21.out (oneCellI _) (by unfold maxLen; first | (simp; done) | (simp; omega)) (by first | (simp; done) | (simp; omega)) g21.out.size ?_; intro v21a w21a ho21a hg21a; have o21a := Lib.hid (ownI_of_row (l := l) ho21a (by (try simp); try omega) (by (try simp); try omega)); have b21a := Lib.hid (below_row g21.out hg21a g21.out.size e21.out (Nat.le_refl _)); clear ho21a hg21a)
      have a21b := Lib.hid (ownI_alloc o21a.out (.cells #[.int .i64 b, .int .i64 a] 3))
      have d21b := Lib.hid (b21a.out.alloc b21a.out.size (.cells #[.int .i64 b, .int .i64 a] 3))
      have s21b := Lib.hid (ri_src (ri_of_own (ownI_lit w20b.heap.size w21a [b, a] #[.int .i64 b, .int .i64 a] w21a.heap.size 2 rfl b21a.out.size rfl rfl (by unfold maxLen; omega))))
      go_upto_region 16 with (at_builtin; refine wpList_append_src rfl _ _ 22 rfl w20b.heap.size 3 i0 (.int .i64 0) 8 Tryd.underlying22 hi hz0 hz1 hz2 rfl _ _ _ rfl a21b.out _ _ rfl s21b.out (oneCellI _) (by unfold maxLen; first | (simp; done) | (simp; omega)) (by first | (simp; done) | (simp; omega)) d21b.out.size ?_; intro v21b w21b ho21b hg21b; have o21b := Lib.hid (ownI_of_row (l := l ++ [b, a]) ho21b (by (try simp); try omega) (by (try simp); try omega)); have b21b := Lib.hid (below_row d21b.out hg21b d21b.out.size a21b.out (Nat.le_refl _)); clear ho21b hg21b)
      have rq := Lib.hid (ri_of_own o21b.out)
      have bq := Lib.hid (below_on bp.out b21b.out)
      replace rp := Lib.hid (ri_below rp.out b21b.out)
      go_wp2_with fail
      refine (hkp.out _ _ rp.out).mono ?_
      rintro e w31 ⟨v_r31, rfl, r31, q31⟩
      replace r31 := Lib.hid r31
      replace rp := Lib.hid (ri_below rp.out q31)
      replace rq := Lib.hid (ri_below rq.out q31)
      have b31 := Lib.hid (below_on bq.out q31)
      clear q31
      go_wp2_with fail
      refine (hkq.out (by rw [hEE.out]) _ _ rq.out).mono ?_
      rintro e w32 ⟨v_r32, rfl, r32, q32⟩
      replace r32 := Lib.hid r32
      replace rp := Lib.hid (ri_below rp.out q32)
      replace rq := Lib.hid (ri_below rq.out q32)
      replace r31 := Lib.hid (ri_below r31.out q32)
      have b32 := Lib.hid (below_on b31.out q32)
      clear q32
      go_wp2_with fail
      refine (same_self _ _ E _ (by omega) r31.out r32.out).mono ?_
      rintro e w33 ⟨rfl, q33⟩
      replace rp := Lib.hid (ri_below rp.out q33)
      replace rq := Lib.hid (ri_below rq.out q33)
      replace r31 := Lib.hid (ri_below r31.out q33)
      replace r32 := Lib.hid (ri_below r32.out q33)
      have b33 := Lib.hid (below_on b32.out q33)
      clear q33
      go_wp2_with fail
      go_ret
      exact ⟨rfl, b33.out⟩
  · clear hwf hM hK hF hR hFu hI
    have hcase : decide ((25 : Int) < (l.length : Int)) = true ∨ (decide ((25 : Int) < (l.length : Int)) = false ∧ ((l.length : Int) == 0) = true) := by
      by_cases h : l.length ≤ 25
      · exact .inr ⟨decide_eq_false (by omega), by rw [beq_iff_eq]; omega⟩
      · exact .inl (decide_eq_true (by omega))
    clear hl
    rcases hcase with hl1 | ⟨hl1, hl2⟩
    all_goals
      go_enter Tryd.func6, Tryd.ntmps6
      go_wp2_with fail
      refine (hawake.out w).mono ?_
      rintro e w1 ⟨rfl, hb1⟩
      replace hb1 := Lib.hid hb1
      go_wp2_with fail
      go_ret
      exact ⟨rfl, hb1.out⟩

end Go.Proofs.YtgilifcpmnbhjaaDoor
