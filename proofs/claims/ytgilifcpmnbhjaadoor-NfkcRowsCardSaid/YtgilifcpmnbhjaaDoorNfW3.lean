/- Layer 8: the walk of NfkcRows. -/
import Derived.Test.YtgilifcpmnbhjaaDoorNfW0
import Derived.Test.YtgilifcpmnbhjaaDoorBasP
import Derived.Deep.LoopGhost
import Derived.Deep.DeepCutAuto
namespace Go.Proofs.YtgilifcpmnbhjaaDoor
set_option linter.unusedSimpArgs false
set_option linter.unusedVariables false
open Go.RowKit Go.Lib

set_option maxHeartbeats 3200000 in
set_option maxRecDepth 100000 in
theorem nfkcRows_walk (hM : MadeC) (hD : NfkdC) (hK : NfkcC) (hF : FormC) (va : Value) (a : List Int) (c : Int) (vb : Value) (b : List Int) (w : World) (hva : RI w va a ∧ WfI a) (_ : -9223372036854775808 ≤ c ∧ c ≤ 9223372036854775807) (hvb : RI w vb b ∧ WfI b) :
    Calls Tryd.prog 7 #[va, .int .i64 c, vb] w fun e w' => e = .returned (.bool true) ∧ Below w.heap.size w w' := by
  obtain ⟨hra, hwa⟩ := hva
  obtain ⟨hrb, hwb⟩ := hvb
  obtain ⟨pa, ca, rfl⟩ := ri_form hra
  obtain ⟨pb, cb, rfl⟩ := ri_form hrb
  obtain ⟨i0, hi, hz0, hz1, hz2⟩ := info_parts info_i
  have hawake := Lib.hid (awake8 hM hK hF)
  replace hra := Lib.hid hra
  replace hrb := Lib.hid hrb
  by_cases hl : a.length ≤ 60 ∧ b.length ≤ 60
  · obtain ⟨hla, hlb⟩ := hl
    have hl1 : decide (60 < a.length) = false := decide_eq_false (by omega)
    have hl2 : decide (60 < b.length) = false := decide_eq_false (by omega)
    obtain ⟨x, hx, hx0, hx1⟩ : ∃ x, wrap64 (97 + (bits .and .i64 c 65535).tmod 26) = x ∧ 97 ≤ x ∧ x ≤ 122 := by
      refine ⟨_, rfl, ?_⟩
      rw [and65535, Int.tmod_eq_emod_of_nonneg (by omega)]
      unfold wrap64
      omega
    have hoeq := Nfk.nfkc_head (show 0 ≤ x by omega) (by omega) a b
    have hkeq := Nfk.nfkd_head (show 0 ≤ x by omega) (by omega) a b
    have hwt : WfI (x :: b) := wfI_cons (by omega) hwb
    have hoa := fun W h => nfkc_of hK (v := .slice pa a.length ca) (w := W) rfl (by omega) hwa h
    have hka := fun W h => nfkd_of hD (v := .slice pa a.length ca) (w := W) rfl (by omega) hwa h
    have hot := fun V W h => nfkc_of hK (v := V) (w := W) (l := x :: b) rfl (by simp; omega) hwt h
    have hkt := fun V W h => nfkd_of hD (v := V) (w := W) (l := x :: b) rfl (by simp; omega) hwt h
    have hoall := fun V W h => nfkc_of hK (v := V) (w := W) (l := a ++ x :: b) rfl (by simp; omega) (wfI_app hwa hwt) h
    have hkall := fun V W h => nfkd_of hD (v := V) (w := W) (l := a ++ x :: b) rfl (by simp; omega) (wfI_app hwa hwt) h
    have n1 := nfkc_len a
    have n2 := nfkc_len (x :: b)
    have n3 := nfkd_len a
    have n4 := nfkd_len (x :: b)
    rw [hoeq] at hoall
    rw [hkeq] at hkall
    obtain ⟨t, ht⟩ : ∃ t, x :: b = t := ⟨_, rfl⟩
    obtain ⟨all, hall⟩ : ∃ all, a ++ t = all := ⟨_, rfl⟩
    obtain ⟨O1, hO1⟩ : ∃ O, Nfk.nfkcI a = O := ⟨_, rfl⟩
    obtain ⟨O2, hO2⟩ : ∃ O, Nfk.nfkcI t = O := ⟨_, rfl⟩
    obtain ⟨K1, hK1⟩ : ∃ O, Nfk.nfkdI a = O := ⟨_, rfl⟩
    obtain ⟨K2, hK2⟩ : ∃ O, Nfk.nfkdI t = O := ⟨_, rfl⟩
    have htl : t.length = b.length + 1 := by rw [← ht]; rfl
    rw [ht] at n2 n4
    simp only [ht, hO1, hO2, hK1, hK2, hall] at hoa hka hot hkt hoall hkall n1 n2 n3 n4
    have hn1 : O1.length ≤ 488 := by omega
    have hn2 : O2.length ≤ 488 := by omega
    have hn3 : K1.length ≤ 488 := by omega
    have hn4 : K2.length ≤ 488 := by omega
    have htl' : t.length ≤ 61 := by omega
    have hO12l : (O1 ++ O2).length ≤ 976 := by rw [List.length_append]; omega
    have hK12l : (K1 ++ K2).length ≤ 976 := by rw [List.length_append]; omega
    obtain ⟨O12, hO12⟩ : ∃ O, O1 ++ O2 = O := ⟨_, rfl⟩
    obtain ⟨K12, hK12⟩ : ∃ O, K1 ++ K2 = O := ⟨_, rfl⟩
    rw [hO12] at hO12l hoall
    rw [hK12] at hK12l hkall
    replace hO12 := Lib.hid hO12
    replace hK12 := Lib.hid hK12
    replace ht := Lib.hid (show [x] ++ b = t from ht)
    replace hall := Lib.hid hall
    replace hoa := Lib.hid hoa
    replace hka := Lib.hid hka
    replace hot := Lib.hid hot
    replace hkt := Lib.hid hkt
    replace hoall := Lib.hid hoall
    replace hkall := Lib.hid hkall
    have hsrca := Lib.hid (fun W (h : Below w.heap.size w W) => ri_src (ri_below hra.out h))
    have hsrcb := Lib.hid (fun W (h : Below w.heap.size w W) => ri_src (ri_below hrb.out h))
    clear hwa hwb hwt hoeq hkeq hM hD hK hF hO1 hO2 hK1 hK2 n1 n2 n3 n4 htl hx0 hx1
    go_enter Tryd.func7, Tryd.ntmps7
    go_wp2_with fail
    refine (hawake.out w).mono ?_
    rintro e w1 ⟨rfl, hb1⟩
    have o1 := Lib.hid (ownI_lit w.heap.size w1 [x] #[.int .i64 x] w1.heap.size 1 rfl hb1.size rfl rfl (by unfold maxLen; omega))
    have b1 : Hid (Below w.heap.size w (w1.alloc (.cells #[.int .i64 x] 3))) := Lib.hid (hb1.alloc hb1.size _)
    have s1 := Lib.hid (hsrcb.out _ b1.out)
    clear hb1
    go_upto_region 6 with (at_builtin; refine wpList_append_src rfl _ _ 22 rfl w.heap.size 3 i0 (.int .i64 0) 8 Tryd.underlying22 hi hz0 hz1 hz2 rfl _ _ _ rfl o1.out _ _ rfl s1.out (oneCellI _) (by unfold maxLen; first | (simp; done) | (simp; omega)) (by first | (simp; done) | (simp; omega)) b1.out.size ?_; intro v2 w2 ho2 hg2; have o2 := Lib.hid (ownI_of_row (l := [x] ++ b) ho2 (by (try simp); try omega) (by (try simp); try omega)); have b2 := Lib.hid (below_row b1.out hg2 b1.out.size o1.out (Nat.le_refl _)); clear ho2 hg2)
    have h2 := Lib.hid (ri_cast (ri_of_own o2.out) ht.out)
    obtain ⟨p2, c2, rfl⟩ := ri_form h2.out
    have e2 := Lib.hid (ownI_lit w2.heap.size w2 [] #[] w2.heap.size 0 rfl (Nat.le_refl _) rfl rfl (by unfold maxLen; omega))
    have g2 := Lib.hid (below_new w2 (.cells #[] 3))
    have s2 := Lib.hid (hsrca.out _ (below_on b2.out g2.out))
    clear o1 s1 o2 b1
    go_upto_region 7 with (at_builtin; refine wpList_append_src rfl _ _ 22 rfl w2.heap.size 3 i0 (.int .i64 0) 8 Tryd.underlying22 hi hz0 hz1 hz2 rfl _ _ _ rfl e2.out _ _ rfl s2.out (oneCellI _) (by unfold maxLen; first | (simp; done) | (simp; omega)) (by first | (simp; done) | (simp; omega)) g2.out.size ?_; intro v3 w3 ho3 hg3; have o3 := Lib.hid (ownI_of_row (l := a) ho3 (by (try simp); try omega) (by (try simp); try omega)); have b3 := Lib.hid (below_row g2.out hg3 g2.out.size e2.out (Nat.le_refl _)); clear ho3 hg3)
    have s3 := Lib.hid (ri_src (ri_below h2.out b3.out))
    clear e2 s2 g2
    go_wp2_with (at_builtin; refine wpList_append_src rfl _ _ 22 rfl w2.heap.size 3 i0 (.int .i64 0) 8 Tryd.underlying22 hi hz0 hz1 hz2 rfl _ _ _ rfl o3.out _ _ rfl s3.out (oneCellI _) (by unfold maxLen; first | (simp; done) | (simp; omega)) (by first | (simp; done) | (simp; omega)) b3.out.size ?_; intro v4 w4 ho4 hg4; have o4 := Lib.hid (ownI_of_row (l := a ++ t) ho4 (by (try simp); try omega) (by (try simp); try omega)); have b4 := Lib.hid (below_row b3.out hg4 b3.out.size o3.out (Nat.le_refl _)); clear ho4 hg4)
    have h4 := Lib.hid (ri_cast (ri_of_own o4.out) hall.out)
    obtain ⟨p4, c4, rfl⟩ := ri_form h4.out
    have b4w := Lib.hid (below_on b2.out b4.out)
    have h2w := Lib.hid (ri_below h2.out b4.out)
    clear o3 s3 b3 o4
    refine (hoa.out _ (ri_below hra.out (below_on b4w.out (below_new w4 (.cells #[] 3))))).mono ?_
    rintro e w5 ⟨v5, rfl, r5, hb5⟩
    have e5 := Lib.hid (ownI_below (ownI_lit w4.heap.size w4 [] #[] w4.heap.size 0 rfl (Nat.le_refl _) rfl rfl (by unfold maxLen; omega)) hb5)
    have g5 := Lib.hid (below_on (below_new w4 (.cells #[] 3)) hb5)
    have s5 := Lib.hid (ri_src r5)
    clear r5 hb5
    go_wp2_with (at_builtin; refine wpList_append_src rfl _ _ 22 rfl w4.heap.size 3 i0 (.int .i64 0) 8 Tryd.underlying22 hi hz0 hz1 hz2 rfl _ _ _ rfl e5.out _ _ rfl s5.out (oneCellI _) (by unfold maxLen; first | (simp; done) | (simp; omega)) (by first | (simp; done) | (simp; omega)) g5.out.size ?_; intro v6 w6 ho6 hg6; have o6 := Lib.hid (ownI_of_row (l := O1) ho6 (by (try simp); try omega) (by (try simp); try omega)); have b6 := Lib.hid (below_row g5.out hg6 g5.out.size e5.out (Nat.le_refl _)); clear ho6 hg6)
    refine (hot.out _ _ (ri_below h2w.out b6.out)).mono ?_
    rintro e w7 ⟨v7, rfl, r7, hb7⟩
    have e7 := Lib.hid (ownI_below o6.out hb7)
    have g7 := Lib.hid (below_on b6.out hb7)
    have s7 := Lib.hid (ri_src r7)
    clear r7 hb7 o6 e5 s5 g5
    go_wp2_with (at_builtin; refine wpList_append_src rfl _ _ 22 rfl w4.heap.size 3 i0 (.int .i64 0) 8 Tryd.underlying22 hi hz0 hz1 hz2 rfl _ _ _ rfl e7.out _ _ rfl s7.out (oneCellI _) (by unfold maxLen; first | (simp; done) | (simp; omega)) (by first | (simp; done) | (simp; omega)) g7.out.size ?_; intro v8 w8 ho8 hg8; have o8 := Lib.hid (ownI_of_row (l := O1 ++ O2) ho8 (by (try simp); try omega) (by (try simp); try omega)); have b8 := Lib.hid (below_row g7.out hg8 g7.out.size e7.out (Nat.le_refl _)); clear ho8 hg8)
    have h8 := Lib.hid (ri_cast (ri_of_own o8.out) hO12.out)
    obtain ⟨p8, c8, rfl⟩ := ri_form h8.out
    have b8w := Lib.hid (below_on b4w.out b8.out)
    have h4w := Lib.hid (ri_below h4.out b8.out)
    have h2x := Lib.hid (ri_below h2w.out b8.out)
    clear e7 s7 g7 o8 b6
    refine (hka.out _ (ri_below hra.out (below_on b8w.out (below_new w8 (.cells #[] 3))))).mono ?_
    rintro e w9 ⟨v9, rfl, r9, hb9⟩
    have e9 := Lib.hid (ownI_below (ownI_lit w8.heap.size w8 [] #[] w8.heap.size 0 rfl (Nat.le_refl _) rfl rfl (by unfold maxLen; omega)) hb9)
    have g9 := Lib.hid (below_on (below_new w8 (.cells #[] 3)) hb9)
    have s9 := Lib.hid (ri_src r9)
    clear r9 hb9
    go_wp2_with (at_builtin; refine wpList_append_src rfl _ _ 22 rfl w8.heap.size 3 i0 (.int .i64 0) 8 Tryd.underlying22 hi hz0 hz1 hz2 rfl _ _ _ rfl e9.out _ _ rfl s9.out (oneCellI _) (by unfold maxLen; first | (simp; done) | (simp; omega)) (by first | (simp; done) | (simp; omega)) g9.out.size ?_; intro v10 w10 ho10 hg10; have o10 := Lib.hid (ownI_of_row (l := K1) ho10 (by (try simp); try omega) (by (try simp); try omega)); have b10 := Lib.hid (below_row g9.out hg10 g9.out.size e9.out (Nat.le_refl _)); clear ho10 hg10)
    refine (hkt.out _ _ (ri_below h2x.out b10.out)).mono ?_
    rintro e w11 ⟨v11, rfl, r11, hb11⟩
    have e11 := Lib.hid (ownI_below o10.out hb11)
    have g11 := Lib.hid (below_on b10.out hb11)
    have s11 := Lib.hid (ri_src r11)
    clear r11 hb11 o10 e9 s9 g9
    go_wp2_with (at_builtin; refine wpList_append_src rfl _ _ 22 rfl w8.heap.size 3 i0 (.int .i64 0) 8 Tryd.underlying22 hi hz0 hz1 hz2 rfl _ _ _ rfl e11.out _ _ rfl s11.out (oneCellI _) (by unfold maxLen; first | (simp; done) | (simp; omega)) (by first | (simp; done) | (simp; omega)) g11.out.size ?_; intro v12 w12 ho12 hg12; have o12 := Lib.hid (ownI_of_row (l := K1 ++ K2) ho12 (by (try simp); try omega) (by (try simp); try omega)); have b12 := Lib.hid (below_row g11.out hg12 g11.out.size e11.out (Nat.le_refl _)); clear ho12 hg12)
    have h12 := Lib.hid (ri_cast (ri_of_own o12.out) hK12.out)
    obtain ⟨p12, c12, rfl⟩ := ri_form h12.out
    have h4y := Lib.hid (ri_below h4w.out b12.out)
    have h8y := Lib.hid (ri_below h8.out b12.out)
    have b12w := Lib.hid (below_on b8w.out b12.out)
    clear e11 s11 g11 o12 b10
    refine (hoall.out _ _ h4y.out).mono ?_
    rintro e w13 ⟨v13, rfl, r13, hb13⟩
    replace r13 := Lib.hid r13
    have h8z := Lib.hid (ri_below h8y.out hb13)
    have h4z := Lib.hid (ri_below h4y.out hb13)
    have h12z := Lib.hid (ri_below h12.out hb13)
    have b13 := Lib.hid (below_on b12w.out hb13)
    clear hb13
    go_wp2_with fail
    refine (same_self _ _ O12 _ (by omega) r13.out h8z.out).mono ?_
    rintro e w14 ⟨rfl, hb14⟩
    have h4v := Lib.hid (ri_below h4z.out hb14)
    have h12v := Lib.hid (ri_below h12z.out hb14)
    have b14 := Lib.hid (below_on b13.out hb14)
    clear hb14
    go_wp2_with fail
    refine (hkall.out _ _ h4v.out).mono ?_
    rintro e w15 ⟨v15, rfl, r15, hb15⟩
    replace r15 := Lib.hid r15
    have h12u := Lib.hid (ri_below h12v.out hb15)
    have b15 := Lib.hid (below_on b14.out hb15)
    clear hb15
    go_wp2_with fail
    refine (same_self _ _ K12 _ (by omega) r15.out h12u.out).mono ?_
    rintro e w16 ⟨rfl, hb16⟩
    replace hb16 := Lib.hid (below_on b15.out hb16)
    go_wp2_with fail
    go_ret
    exact ⟨rfl, hb16.out⟩
  · clear hwa hwb hM hD hK hF
    have hcase : decide ((60 : Int) < (a.length : Int)) = true ∨ (decide ((60 : Int) < (a.length : Int)) = false ∧ decide ((60 : Int) < (b.length : Int)) = true) := by
      by_cases h : a.length ≤ 60
      · exact .inr ⟨decide_eq_false (by omega), decide_eq_true (by omega)⟩
      · exact .inl (decide_eq_true (by omega))
    clear hl
    rcases hcase with hl1 | ⟨hl1, hl2⟩
    all_goals
      go_enter Tryd.func7, Tryd.ntmps7
      go_wp2_with fail
      refine (hawake.out w).mono ?_
      rintro e w1 ⟨rfl, hb1⟩
      replace hb1 := Lib.hid hb1
      go_wp2_with fail
      go_ret
      exact ⟨rfl, hb1.out⟩

end Go.Proofs.YtgilifcpmnbhjaaDoor
