/- Layer 10: the walk of FoldinDrops. -/
import Derived.Test.YtfmnecknfmgggaaDoorFoW0
import Derived.Test.YtfmnecknfmgggaaDoorBasP
import Derived.Deep.LoopGhost
import Derived.Deep.DeepCutAuto
namespace Go.Proofs.YtfmnecknfmgggaaDoor
set_option linter.unusedSimpArgs false
set_option linter.unusedVariables false
open Go.RowKit Go.Lib

set_option maxHeartbeats 12800000 in
set_option maxRecDepth 100000 in
theorem foldinDrops_walk (hL : LeftC10) (hA : AllC10) (hDr : DropsC) (v : Value) (l : List Int) (k r : Int) (w : World) (hv : RI w v l ∧ WfI l) (_ : -9223372036854775808 ≤ k ∧ k ≤ 9223372036854775807) (hr : -9223372036854775808 ≤ r ∧ r ≤ 9223372036854775807) :
    Calls Tryd.prog 3 #[v, .int .i64 k, .int .i64 r] w fun e w' => e = .returned (.bool true) ∧ Below w.heap.size w w' := by
  obtain ⟨hri, hwf⟩ := hv
  obtain ⟨i0, hi, hz0, hz1, hz2⟩ := info_parts info_i
  obtain ⟨p, cap, rfl⟩ := ri_form hri
  have hawake := Lib.hid (awake10 hL hA)
  have hcap := ri_cap hri
  have hdr := fun W => hDr r W
  replace hri := Lib.hid hri
  by_cases hl : l.length ≤ 60
  · have hl' : decide (60 < l.length) = false := decide_eq_false (by omega)
    have hl2 : ¬ (60 : Int) < (l.length : Int) := by omega
    cases hD : Prp.drpB r with
    | false =>
      rw [hD] at hdr
      replace hdr := Lib.hid hdr
      clear hL hA hwf hD hcap
      go_enter Tryd.func3, Tryd.ntmps3
      go_wp2_with fail
      refine (hawake.out _).mono ?_
      rintro e w1 ⟨rfl, q1⟩
      have b1 := Lib.hid q1
      clear q1
      go_wp2_with fail
      refine (hdr.out _).mono ?_
      rintro e w2 ⟨rfl, q2⟩
      have b2 := Lib.hid (below_on b1.out q2)
      clear q2
      go_wp2_with fail
      go_ret
      exact ⟨rfl, b2.out⟩
    | true =>
      rw [hD] at hdr
      replace hdr := Lib.hid hdr
      obtain ⟨i, hand, hin⟩ : ∃ i : Nat, (bits .and .i64 k 65535).tmod ((l.length : Int) + 1) = (i : Int) ∧ i ≤ l.length := by
        have h0 : 0 ≤ k % 65536 % ((l.length : Int) + 1) := Int.emod_nonneg _ (by omega)
        have h1 : k % 65536 % ((l.length : Int) + 1) < (l.length : Int) + 1 := Int.emod_lt_of_pos _ (by omega)
        refine ⟨(k % 65536 % ((l.length : Int) + 1)).toNat, ?_, by omega⟩
        rw [and65535, Int.tmod_eq_emod_of_nonneg (by omega)]
        omega
      have hnz : ¬ ((l.length : Int) + 1 = 0) := by omega
      have hnz' : (((l.length : Int) + 1) == 0) = false := beq_eq_false_iff_ne.2 (by omega)
      have hmore := Fol.left_more (l.take i) (l.drop i) hD
      rw [List.take_append_drop] at hmore
      have hallE : Fol.allI (l.take i ++ [r] ++ l.drop i) = Fol.allI l := by
        rw [Fol.all_form, Fol.all_form, List.append_assoc]
        show Nfk.nfkcI (Fol.leftI (l.take i ++ r :: l.drop i)) = _
        rw [hmore]
      have hlf := Lib.hid (fun V W h => left_of10 hL (v := V) (w := W) (Fol.left_dropped hD) (by simp) (wfI_cons hr wfI_nil) h)
      have hwm : WfI (l.take i ++ [r] ++ l.drop i) := wfI_app (wfI_app (wfI_take hwf i) (wfI_cons hr wfI_nil)) (wfI_drop hwf i)
      have hm := fun V W h => all_of10 hA (v := V) (w := W) hallE (by simp only [List.length_append, List.length_take, List.length_drop, List.length_singleton]; omega) hwm h
      have hall := fun W h => all_of10 hA (v := .slice p l.length cap) (l := l) (w := W) rfl (by omega) hwf h
      have n4 := all_len10 l
      obtain ⟨C, hC⟩ : ∃ C, Fol.allI l = C := ⟨_, rfl⟩
      rw [hC] at hm hall n4
      have hCl : C.length ≤ 1440 := by omega
      have htl : (l.take i).length = i := by rw [List.length_take]; omega
      have hdl : (l.drop i).length = l.length - i := by rw [List.length_drop]
      replace hm := Lib.hid hm
      replace hall := Lib.hid hall
      clear hC hallE hmore hwm hL hA hDr hwf hD n4
      rcases Nat.eq_zero_or_pos l.length with h0 | h0
      · have hi0 : i = 0 := by omega
        subst hi0
        have hl0 : l = [] := List.eq_nil_of_length_eq_zero h0
        subst hl0
        have hri0 := hri.out
        obtain ⟨A, hAA⟩ : ∃ A : List Int, [] = A := ⟨_, rfl⟩
        obtain ⟨B, hBB⟩ : ∃ A : List Int, [] = A := ⟨_, rfl⟩
        have hm2 : ∀ V W, RI W V (A ++ [r] ++ B) → Calls Tryd.prog 8 #[V] W (Told C W) := by
          intro V W h
          rw [← hAA, ← hBB] at h
          exact hm.out V W h
        replace hm := Lib.hid hm2
        have hAl : A.length ≤ 60 := by rw [← hAA]; simp
        have hBl : B.length ≤ 60 := by rw [← hBB]; simp
        clear hm2
        rcases hri0 with ⟨he, _⟩ | ⟨a, c, he, _, _⟩
        · simp only [List.length_nil, Value.slice.injEq] at he
          obtain ⟨rfl, _, rfl⟩ := he
          go_enter Tryd.func3, Tryd.ntmps3
          have hta := Lib.hid (hAA ▸ ri_nil w : RI w (.slice none 0 0) A)
          have hd : RI w (.slice none 0 0) B := hBB ▸ ri_nil w
          clear hAA hBB
          go_wp2_with fail
          refine (hawake.out _).mono ?_
          rintro e w1 ⟨rfl, q1⟩
          have b1 := Lib.hid q1
          clear q1
          go_wp2_with fail
          refine (hdr.out _).mono ?_
          rintro e w2 ⟨rfl, q2⟩
          have b2 := Lib.hid (below_on b1.out q2)
          clear q2
          have o1 := Lib.hid (ownI_lit w.heap.size w2 [] #[] w2.heap.size 0 rfl b2.out.size rfl rfl (by unfold maxLen; omega))
          have b3 := Lib.hid (b2.out.alloc b2.out.size (.cells #[] 3))
          have s1 := Lib.hid (ri_src (ri_below hta.out b3.out))
          go_upto_region 6 with (at_builtin; refine wpList_append_src rfl _ _ 22 rfl w.heap.size 3 i0 (.int .i64 0) 8 Tryd.underlying22 hi hz0 hz1 hz2 rfl _ _ _ rfl o1.out _ _ rfl s1.out (oneCellI _) (by unfold maxLen; first | (simp; done) | (simp; omega)) (by first | (simp; done) | (simp; omega)) b3.out.size ?_; intro v4 w4 ho4 hg4; have o4 := Lib.hid (ownI_of_row (l := A) ho4 (by (try simp); try omega) (by (try simp); try omega)); have b4 := Lib.hid (below_row b3.out hg4 b3.out.size o1.out (Nat.le_refl _)); clear ho4 hg4)
          have o5 := Lib.hid (ownI_alloc o4.out (.cells #[.int .i64 r] 3))
          have b5 := Lib.hid (b4.out.alloc b4.out.size (.cells #[.int .i64 r] 3))
          have s5 := Lib.hid (ri_src (ri_of_own (ownI_lit w.heap.size w4 [r] #[.int .i64 r] w4.heap.size 1 rfl b4.out.size rfl rfl (by unfold maxLen; omega))))
          clear o1 b3 s1 o4
          go_upto_region 7 with (at_builtin; refine wpList_append_src rfl _ _ 22 rfl w.heap.size 3 i0 (.int .i64 0) 8 Tryd.underlying22 hi hz0 hz1 hz2 rfl _ _ _ rfl o5.out _ _ rfl s5.out (oneCellI _) (by unfold maxLen; first | (simp; done) | (simp; omega)) (by first | (simp; done) | (simp; omega)) b5.out.size ?_; intro v6 w6 ho6 hg6; have o6 := Lib.hid (ownI_of_row (l := A ++ [r]) ho6 (by (try simp); try omega) (by (try simp); try omega)); have b6 := Lib.hid (below_row b5.out hg6 b5.out.size o5.out (Nat.le_refl _)); clear ho6 hg6)
          have s7 := Lib.hid (ri_src (ri_below (hd) b6.out))
          clear o5 b5 s5
          go_wp2_with (at_builtin; refine wpList_append_src rfl _ _ 22 rfl w.heap.size 3 i0 (.int .i64 0) 8 Tryd.underlying22 hi hz0 hz1 hz2 rfl _ _ _ rfl o6.out _ _ rfl s7.out (oneCellI _) (by unfold maxLen; first | (simp; done) | (simp; omega)) (by first | (simp; done) | (simp; omega)) b6.out.size ?_; intro v8 w8 ho8 hg8; have o8 := Lib.hid (ownI_of_row (l := A ++ [r] ++ B) ho8 (by (try simp); try omega) (by (try simp); try omega)); have b8 := Lib.hid (below_row b6.out hg8 b6.out.size o6.out (Nat.le_refl _)); clear ho8 hg8)
          have rm := Lib.hid (ri_of_own o8.out)
          have hri8 := Lib.hid (ri_below hri.out b8.out)
          clear o6 s7 b6 o8
          refine (hm.out _ _ rm.out).mono ?_
          rintro e w9 ⟨v_y1, rfl, y1, q9⟩
          replace y1 := Lib.hid y1
          replace rm := Lib.hid (ri_below rm.out q9)
          replace hri8 := Lib.hid (ri_below hri8.out q9)
          have b9 := Lib.hid (below_on b8.out q9)
          clear q9
          clear rm
          go_wp2_with fail
          refine (hall.out _ hri8.out).mono ?_
          rintro e w10 ⟨v_y2, rfl, y2, q10⟩
          replace y2 := Lib.hid y2
          replace hri8 := Lib.hid (ri_below hri8.out q10)
          replace y1 := Lib.hid (ri_below y1.out q10)
          have b10 := Lib.hid (below_on b9.out q10)
          clear q10
          go_wp2_with fail
          refine (same_self _ _ C _ (by omega) y1.out y2.out).mono ?_
          rintro e w11 ⟨rfl, q11⟩
          replace hri8 := Lib.hid (ri_below hri8.out q11)
          replace y1 := Lib.hid (ri_below y1.out q11)
          replace y2 := Lib.hid (ri_below y2.out q11)
          have b11 := Lib.hid (below_on b10.out q11)
          clear q11
          clear y1 y2
          have b19 := Lib.hid (b11.out.alloc b11.out.size (.cells #[.int .i64 r] 3))
          have l19 := Lib.hid (ri_of_own (ownI_lit w.heap.size w11 [r] #[.int .i64 r] w11.heap.size 1 rfl b11.out.size rfl rfl (by unfold maxLen; omega)))
          go_wp2_with fail
          refine (hlf.out _ _ l19.out).mono ?_
          rintro e w21 ⟨v_z, rfl, z, q21⟩
          obtain ⟨p_z, c_z, rfl⟩ := ri_form z
          replace z := Lib.hid z
          have b21 := Lib.hid (below_on b19.out q21)
          clear q21
          go_wp2_with fail
          go_ret
          exact ⟨rfl, b21.out⟩
        · simp only [List.length_nil, Value.slice.injEq] at he
          obtain ⟨rfl, _, rfl⟩ := he
          rcases Nat.eq_zero_or_pos cap with hc0 | hc0
          · subst hc0
            have hta := Lib.hid (hAA ▸ ri_none w (some a) 0 (fun h => by cases h) : RI w (.slice (some a) 0 0) A)
            have hd : RI w (.slice (some a) 0 0) B := hBB ▸ ri_none w (some a) 0 (fun h => by cases h)
            clear hAA hBB
            go_enter Tryd.func3, Tryd.ntmps3
            go_wp2_with fail
            refine (hawake.out _).mono ?_
            rintro e w1 ⟨rfl, q1⟩
            have b1 := Lib.hid q1
            clear q1
            go_wp2_with fail
            refine (hdr.out _).mono ?_
            rintro e w2 ⟨rfl, q2⟩
            have b2 := Lib.hid (below_on b1.out q2)
            clear q2
            have o1 := Lib.hid (ownI_lit w.heap.size w2 [] #[] w2.heap.size 0 rfl b2.out.size rfl rfl (by unfold maxLen; omega))
            have b3 := Lib.hid (b2.out.alloc b2.out.size (.cells #[] 3))
            have s1 := Lib.hid (ri_src (ri_below hta.out b3.out))
            go_upto_region 6 with (at_builtin; refine wpList_append_src rfl _ _ 22 rfl w.heap.size 3 i0 (.int .i64 0) 8 Tryd.underlying22 hi hz0 hz1 hz2 rfl _ _ _ rfl o1.out _ _ rfl s1.out (oneCellI _) (by unfold maxLen; first | (simp; done) | (simp; omega)) (by first | (simp; done) | (simp; omega)) b3.out.size ?_; intro v4 w4 ho4 hg4; have o4 := Lib.hid (ownI_of_row (l := A) ho4 (by (try simp); try omega) (by (try simp); try omega)); have b4 := Lib.hid (below_row b3.out hg4 b3.out.size o1.out (Nat.le_refl _)); clear ho4 hg4)
            have o5 := Lib.hid (ownI_alloc o4.out (.cells #[.int .i64 r] 3))
            have b5 := Lib.hid (b4.out.alloc b4.out.size (.cells #[.int .i64 r] 3))
            have s5 := Lib.hid (ri_src (ri_of_own (ownI_lit w.heap.size w4 [r] #[.int .i64 r] w4.heap.size 1 rfl b4.out.size rfl rfl (by unfold maxLen; omega))))
            clear o1 b3 s1 o4
            go_upto_region 7 with (at_builtin; refine wpList_append_src rfl _ _ 22 rfl w.heap.size 3 i0 (.int .i64 0) 8 Tryd.underlying22 hi hz0 hz1 hz2 rfl _ _ _ rfl o5.out _ _ rfl s5.out (oneCellI _) (by unfold maxLen; first | (simp; done) | (simp; omega)) (by first | (simp; done) | (simp; omega)) b5.out.size ?_; intro v6 w6 ho6 hg6; have o6 := Lib.hid (ownI_of_row (l := A ++ [r]) ho6 (by (try simp); try omega) (by (try simp); try omega)); have b6 := Lib.hid (below_row b5.out hg6 b5.out.size o5.out (Nat.le_refl _)); clear ho6 hg6)
            have s7 := Lib.hid (ri_src (ri_below (hd) b6.out))
            clear o5 b5 s5
            go_wp2_with (at_builtin; refine wpList_append_src rfl _ _ 22 rfl w.heap.size 3 i0 (.int .i64 0) 8 Tryd.underlying22 hi hz0 hz1 hz2 rfl _ _ _ rfl o6.out _ _ rfl s7.out (oneCellI _) (by unfold maxLen; first | (simp; done) | (simp; omega)) (by first | (simp; done) | (simp; omega)) b6.out.size ?_; intro v8 w8 ho8 hg8; have o8 := Lib.hid (ownI_of_row (l := A ++ [r] ++ B) ho8 (by (try simp); try omega) (by (try simp); try omega)); have b8 := Lib.hid (below_row b6.out hg8 b6.out.size o6.out (Nat.le_refl _)); clear ho8 hg8)
            have rm := Lib.hid (ri_of_own o8.out)
            have hri8 := Lib.hid (ri_below hri.out b8.out)
            clear o6 s7 b6 o8
            refine (hm.out _ _ rm.out).mono ?_
            rintro e w9 ⟨v_y1, rfl, y1, q9⟩
            replace y1 := Lib.hid y1
            replace rm := Lib.hid (ri_below rm.out q9)
            replace hri8 := Lib.hid (ri_below hri8.out q9)
            have b9 := Lib.hid (below_on b8.out q9)
            clear q9
            clear rm
            go_wp2_with fail
            refine (hall.out _ hri8.out).mono ?_
            rintro e w10 ⟨v_y2, rfl, y2, q10⟩
            replace y2 := Lib.hid y2
            replace hri8 := Lib.hid (ri_below hri8.out q10)
            replace y1 := Lib.hid (ri_below y1.out q10)
            have b10 := Lib.hid (below_on b9.out q10)
            clear q10
            go_wp2_with fail
            refine (same_self _ _ C _ (by omega) y1.out y2.out).mono ?_
            rintro e w11 ⟨rfl, q11⟩
            replace hri8 := Lib.hid (ri_below hri8.out q11)
            replace y1 := Lib.hid (ri_below y1.out q11)
            replace y2 := Lib.hid (ri_below y2.out q11)
            have b11 := Lib.hid (below_on b10.out q11)
            clear q11
            clear y1 y2
            have b19 := Lib.hid (b11.out.alloc b11.out.size (.cells #[.int .i64 r] 3))
            have l19 := Lib.hid (ri_of_own (ownI_lit w.heap.size w11 [r] #[.int .i64 r] w11.heap.size 1 rfl b11.out.size rfl rfl (by unfold maxLen; omega)))
            go_wp2_with fail
            refine (hlf.out _ _ l19.out).mono ?_
            rintro e w21 ⟨v_z, rfl, z, q21⟩
            obtain ⟨p_z, c_z, rfl⟩ := ri_form z
            replace z := Lib.hid z
            have b21 := Lib.hid (below_on b19.out q21)
            clear q21
            go_wp2_with fail
            go_ret
            exact ⟨rfl, b21.out⟩
          · have hne : ¬ cap = 0 := by omega
            have hta := Lib.hid (hAA ▸ ri_none w (some a) cap (fun h => by cases h) : RI w (.slice (some a) 0 cap) A)
            have hd : RI w (.slice (some a) 0 cap) B := hBB ▸ ri_none w (some a) cap (fun h => by cases h)
            clear hAA hBB
            go_enter Tryd.func3, Tryd.ntmps3
            go_wp2_with fail
            refine (hawake.out _).mono ?_
            rintro e w1 ⟨rfl, q1⟩
            have b1 := Lib.hid q1
            clear q1
            go_wp2_with fail
            refine (hdr.out _).mono ?_
            rintro e w2 ⟨rfl, q2⟩
            have b2 := Lib.hid (below_on b1.out q2)
            clear q2
            have o1 := Lib.hid (ownI_lit w.heap.size w2 [] #[] w2.heap.size 0 rfl b2.out.size rfl rfl (by unfold maxLen; omega))
            have b3 := Lib.hid (b2.out.alloc b2.out.size (.cells #[] 3))
            have s1 := Lib.hid (ri_src (ri_below hta.out b3.out))
            go_upto_region 6 with (at_builtin; refine wpList_append_src rfl _ _ 22 rfl w.heap.size 3 i0 (.int .i64 0) 8 Tryd.underlying22 hi hz0 hz1 hz2 rfl _ _ _ rfl o1.out _ _ rfl s1.out (oneCellI _) (by unfold maxLen; first | (simp; done) | (simp; omega)) (by first | (simp; done) | (simp; omega)) b3.out.size ?_; intro v4 w4 ho4 hg4; have o4 := Lib.hid (ownI_of_row (l := A) ho4 (by (try simp); try omega) (by (try simp); try omega)); have b4 := Lib.hid (below_row b3.out hg4 b3.out.size o1.out (Nat.le_refl _)); clear ho4 hg4)
            have o5 := Lib.hid (ownI_alloc o4.out (.cells #[.int .i64 r] 3))
            have b5 := Lib.hid (b4.out.alloc b4.out.size (.cells #[.int .i64 r] 3))
            have s5 := Lib.hid (ri_src (ri_of_own (ownI_lit w.heap.size w4 [r] #[.int .i64 r] w4.heap.size 1 rfl b4.out.size rfl rfl (by unfold maxLen; omega))))
            clear o1 b3 s1 o4
            go_upto_region 7 with (at_builtin; refine wpList_append_src rfl _ _ 22 rfl w.heap.size 3 i0 (.int .i64 0) 8 Tryd.underlying22 hi hz0 hz1 hz2 rfl _ _ _ rfl o5.out _ _ rfl s5.out (oneCellI _) (by unfold maxLen; first | (simp; done) | (simp; omega)) (by first | (simp; done) | (simp; omega)) b5.out.size ?_; intro v6 w6 ho6 hg6; have o6 := Lib.hid (ownI_of_row (l := A ++ [r]) ho6 (by (try simp); try omega) (by (try simp); try omega)); have b6 := Lib.hid (below_row b5.out hg6 b5.out.size o5.out (Nat.le_refl _)); clear ho6 hg6)
            have s7 := Lib.hid (ri_src (ri_below (hd) b6.out))
            clear o5 b5 s5
            go_wp2_with (at_builtin; refine wpList_append_src rfl _ _ 22 rfl w.heap.size 3 i0 (.int .i64 0) 8 Tryd.underlying22 hi hz0 hz1 hz2 rfl _ _ _ rfl o6.out _ _ rfl s7.out (oneCellI _) (by unfold maxLen; first | (simp; done) | (simp; omega)) (by first | (simp; done) | (simp; omega)) b6.out.size ?_; intro v8 w8 ho8 hg8; have o8 := Lib.hid (ownI_of_row (l := A ++ [r] ++ B) ho8 (by (try simp); try omega) (by (try simp); try omega)); have b8 := Lib.hid (below_row b6.out hg8 b6.out.size o6.out (Nat.le_refl _)); clear ho8 hg8)
            have rm := Lib.hid (ri_of_own o8.out)
            have hri8 := Lib.hid (ri_below hri.out b8.out)
            clear o6 s7 b6 o8
            refine (hm.out _ _ rm.out).mono ?_
            rintro e w9 ⟨v_y1, rfl, y1, q9⟩
            replace y1 := Lib.hid y1
            replace rm := Lib.hid (ri_below rm.out q9)
            replace hri8 := Lib.hid (ri_below hri8.out q9)
            have b9 := Lib.hid (below_on b8.out q9)
            clear q9
            clear rm
            go_wp2_with fail
            refine (hall.out _ hri8.out).mono ?_
            rintro e w10 ⟨v_y2, rfl, y2, q10⟩
            replace y2 := Lib.hid y2
            replace hri8 := Lib.hid (ri_below hri8.out q10)
            replace y1 := Lib.hid (ri_below y1.out q10)
            have b10 := Lib.hid (below_on b9.out q10)
            clear q10
            go_wp2_with fail
            refine (same_self _ _ C _ (by omega) y1.out y2.out).mono ?_
            rintro e w11 ⟨rfl, q11⟩
            replace hri8 := Lib.hid (ri_below hri8.out q11)
            replace y1 := Lib.hid (ri_below y1.out q11)
            replace y2 := Lib.hid (ri_below y2.out q11)
            have b11 := Lib.hid (below_on b10.out q11)
            clear q11
            clear y1 y2
            have b19 := Lib.hid (b11.out.alloc b11.out.size (.cells #[.int .i64 r] 3))
            have l19 := Lib.hid (ri_of_own (ownI_lit w.heap.size w11 [r] #[.int .i64 r] w11.heap.size 1 rfl b11.out.size rfl rfl (by unfold maxLen; omega)))
            go_wp2_with fail
            refine (hlf.out _ _ l19.out).mono ?_
            rintro e w21 ⟨v_z, rfl, z, q21⟩
            obtain ⟨p_z, c_z, rfl⟩ := ri_form z
            replace z := Lib.hid z
            have b21 := Lib.hid (below_on b19.out q21)
            clear q21
            go_wp2_with fail
            go_ret
            exact ⟨rfl, b21.out⟩
      · obtain ⟨bb, off, rfl, hbl, _⟩ := ri_at hri.out h0
        have hta := Lib.hid (ri_take hri.out i (by omega))
        have hic : i ≤ cap := by omega
        obtain ⟨A, hAA⟩ : ∃ A, l.take i = A := ⟨_, rfl⟩
        obtain ⟨B, hBB⟩ : ∃ A, l.drop i = A := ⟨_, rfl⟩
        have hdA : i < cap → RI w (.slice (some ⟨bb, off + i, none⟩) (l.length - i) (cap - i)) B := fun _ => hBB ▸ ri_from hri.out i hin h0
        have hdB : cap = i → RI w (.slice (some ⟨bb, off, none⟩) 0 0) B := fun h => by
          have : B = [] := List.eq_nil_of_length_eq_zero (by rw [← hBB]; omega)
          rw [this]
          exact ri_none w _ _ (fun h => by cases h)
        rw [hAA] at hm hta htl
        rw [hBB] at hm hdl
        have hAl : A.length ≤ 60 := by omega
        have hBl : B.length ≤ 60 := by omega
        replace htl := Lib.hid htl
        replace hdl := Lib.hid hdl
        clear hAA hBB
        rcases Nat.lt_or_ge i cap with hlt | hge
        · have hne : ¬ cap = i := by omega
          go_enter Tryd.func3, Tryd.ntmps3
          go_wp2_with fail
          refine (hawake.out _).mono ?_
          rintro e w1 ⟨rfl, q1⟩
          have b1 := Lib.hid q1
          clear q1
          go_wp2_with fail
          refine (hdr.out _).mono ?_
          rintro e w2 ⟨rfl, q2⟩
          have b2 := Lib.hid (below_on b1.out q2)
          clear q2
          have o1 := Lib.hid (ownI_lit w.heap.size w2 [] #[] w2.heap.size 0 rfl b2.out.size rfl rfl (by unfold maxLen; omega))
          have b3 := Lib.hid (b2.out.alloc b2.out.size (.cells #[] 3))
          have s1 := Lib.hid (ri_src (ri_below hta.out b3.out))
          go_upto_region 6 with (at_builtin; refine wpList_append_src rfl _ _ 22 rfl w.heap.size 3 i0 (.int .i64 0) 8 Tryd.underlying22 hi hz0 hz1 hz2 rfl _ _ _ rfl o1.out _ _ rfl s1.out (oneCellI _) (by unfold maxLen; first | (simp; done) | (simp; omega)) (by first | (simp; done) | (simp; omega)) b3.out.size ?_; intro v4 w4 ho4 hg4; have o4 := Lib.hid (ownI_of_row (l := A) ho4 (by (try simp); try omega) (by (try simp); try omega)); have b4 := Lib.hid (below_row b3.out hg4 b3.out.size o1.out (Nat.le_refl _)); clear ho4 hg4)
          have o5 := Lib.hid (ownI_alloc o4.out (.cells #[.int .i64 r] 3))
          have b5 := Lib.hid (b4.out.alloc b4.out.size (.cells #[.int .i64 r] 3))
          have s5 := Lib.hid (ri_src (ri_of_own (ownI_lit w.heap.size w4 [r] #[.int .i64 r] w4.heap.size 1 rfl b4.out.size rfl rfl (by unfold maxLen; omega))))
          clear o1 b3 s1 o4
          go_upto_region 7 with (at_builtin; refine wpList_append_src rfl _ _ 22 rfl w.heap.size 3 i0 (.int .i64 0) 8 Tryd.underlying22 hi hz0 hz1 hz2 rfl _ _ _ rfl o5.out _ _ rfl s5.out (oneCellI _) (by unfold maxLen; first | (simp; done) | (simp; omega)) (by first | (simp; done) | (simp; omega)) b5.out.size ?_; intro v6 w6 ho6 hg6; have o6 := Lib.hid (ownI_of_row (l := A ++ [r]) ho6 (by (try simp); try omega) (by (try simp); try omega)); have b6 := Lib.hid (below_row b5.out hg6 b5.out.size o5.out (Nat.le_refl _)); clear ho6 hg6)
          have s7 := Lib.hid (ri_src (ri_below (hdA hlt) b6.out))
          clear o5 b5 s5
          go_wp2_with (at_builtin; refine wpList_append_src rfl _ _ 22 rfl w.heap.size 3 i0 (.int .i64 0) 8 Tryd.underlying22 hi hz0 hz1 hz2 rfl _ _ _ rfl o6.out _ _ rfl s7.out (oneCellI _) (by unfold maxLen; first | (simp; done) | (simp; omega)) (by first | (simp; done) | (simp; omega)) b6.out.size ?_; intro v8 w8 ho8 hg8; have o8 := Lib.hid (ownI_of_row (l := A ++ [r] ++ B) ho8 (by (try simp); try omega) (by (try simp); try omega)); have b8 := Lib.hid (below_row b6.out hg8 b6.out.size o6.out (Nat.le_refl _)); clear ho8 hg8)
          have rm := Lib.hid (ri_of_own o8.out)
          have hri8 := Lib.hid (ri_below hri.out b8.out)
          clear o6 s7 b6 o8
          refine (hm.out _ _ rm.out).mono ?_
          rintro e w9 ⟨v_y1, rfl, y1, q9⟩
          replace y1 := Lib.hid y1
          replace rm := Lib.hid (ri_below rm.out q9)
          replace hri8 := Lib.hid (ri_below hri8.out q9)
          have b9 := Lib.hid (below_on b8.out q9)
          clear q9
          clear rm
          go_wp2_with fail
          refine (hall.out _ hri8.out).mono ?_
          rintro e w10 ⟨v_y2, rfl, y2, q10⟩
          replace y2 := Lib.hid y2
          replace hri8 := Lib.hid (ri_below hri8.out q10)
          replace y1 := Lib.hid (ri_below y1.out q10)
          have b10 := Lib.hid (below_on b9.out q10)
          clear q10
          go_wp2_with fail
          refine (same_self _ _ C _ (by omega) y1.out y2.out).mono ?_
          rintro e w11 ⟨rfl, q11⟩
          replace hri8 := Lib.hid (ri_below hri8.out q11)
          replace y1 := Lib.hid (ri_below y1.out q11)
          replace y2 := Lib.hid (ri_below y2.out q11)
          have b11 := Lib.hid (below_on b10.out q11)
          clear q11
          clear y1 y2
          have b19 := Lib.hid (b11.out.alloc b11.out.size (.cells #[.int .i64 r] 3))
          have l19 := Lib.hid (ri_of_own (ownI_lit w.heap.size w11 [r] #[.int .i64 r] w11.heap.size 1 rfl b11.out.size rfl rfl (by unfold maxLen; omega)))
          go_wp2_with fail
          refine (hlf.out _ _ l19.out).mono ?_
          rintro e w21 ⟨v_z, rfl, z, q21⟩
          obtain ⟨p_z, c_z, rfl⟩ := ri_form z
          replace z := Lib.hid z
          have b21 := Lib.hid (below_on b19.out q21)
          clear q21
          go_wp2_with fail
          go_ret
          exact ⟨rfl, b21.out⟩
        · have hcp : cap = i := by omega
          have hd := hdB hcp
          clear hdA hdB
          subst hcp
          go_enter Tryd.func3, Tryd.ntmps3
          go_wp2_with fail
          refine (hawake.out _).mono ?_
          rintro e w1 ⟨rfl, q1⟩
          have b1 := Lib.hid q1
          clear q1
          go_wp2_with fail
          refine (hdr.out _).mono ?_
          rintro e w2 ⟨rfl, q2⟩
          have b2 := Lib.hid (below_on b1.out q2)
          clear q2
          have o1 := Lib.hid (ownI_lit w.heap.size w2 [] #[] w2.heap.size 0 rfl b2.out.size rfl rfl (by unfold maxLen; omega))
          have b3 := Lib.hid (b2.out.alloc b2.out.size (.cells #[] 3))
          have s1 := Lib.hid (ri_src (ri_below hta.out b3.out))
          go_upto_region 6 with (at_builtin; refine wpList_append_src rfl _ _ 22 rfl w.heap.size 3 i0 (.int .i64 0) 8 Tryd.underlying22 hi hz0 hz1 hz2 rfl _ _ _ rfl o1.out _ _ rfl s1.out (oneCellI _) (by unfold maxLen; first | (simp; done) | (simp; omega)) (by first | (simp; done) | (simp; omega)) b3.out.size ?_; intro v4 w4 ho4 hg4; have o4 := Lib.hid (ownI_of_row (l := A) ho4 (by (try simp); try omega) (by (try simp); try omega)); have b4 := Lib.hid (below_row b3.out hg4 b3.out.size o1.out (Nat.le_refl _)); clear ho4 hg4)
          have o5 := Lib.hid (ownI_alloc o4.out (.cells #[.int .i64 r] 3))
          have b5 := Lib.hid (b4.out.alloc b4.out.size (.cells #[.int .i64 r] 3))
          have s5 := Lib.hid (ri_src (ri_of_own (ownI_lit w.heap.size w4 [r] #[.int .i64 r] w4.heap.size 1 rfl b4.out.size rfl rfl (by unfold maxLen; omega))))
          clear o1 b3 s1 o4
          go_upto_region 7 with (at_builtin; refine wpList_append_src rfl _ _ 22 rfl w.heap.size 3 i0 (.int .i64 0) 8 Tryd.underlying22 hi hz0 hz1 hz2 rfl _ _ _ rfl o5.out _ _ rfl s5.out (oneCellI _) (by unfold maxLen; first | (simp; done) | (simp; omega)) (by first | (simp; done) | (simp; omega)) b5.out.size ?_; intro v6 w6 ho6 hg6; have o6 := Lib.hid (ownI_of_row (l := A ++ [r]) ho6 (by (try simp); try omega) (by (try simp); try omega)); have b6 := Lib.hid (below_row b5.out hg6 b5.out.size o5.out (Nat.le_refl _)); clear ho6 hg6)
          have s7 := Lib.hid (ri_src (ri_below (hd) b6.out))
          clear o5 b5 s5
          go_wp2_with (at_builtin; refine wpList_append_src rfl _ _ 22 rfl w.heap.size 3 i0 (.int .i64 0) 8 Tryd.underlying22 hi hz0 hz1 hz2 rfl _ _ _ rfl o6.out _ _ rfl s7.out (oneCellI _) (by unfold maxLen; first | (simp; done) | (simp; omega)) (by first | (simp; done) | (simp; omega)) b6.out.size ?_; intro v8 w8 ho8 hg8; have o8 := Lib.hid (ownI_of_row (l := A ++ [r] ++ B) ho8 (by (try simp); try omega) (by (try simp); try omega)); have b8 := Lib.hid (below_row b6.out hg8 b6.out.size o6.out (Nat.le_refl _)); clear ho8 hg8)
          have rm := Lib.hid (ri_of_own o8.out)
          have hri8 := Lib.hid (ri_below hri.out b8.out)
          clear o6 s7 b6 o8
          refine (hm.out _ _ rm.out).mono ?_
          rintro e w9 ⟨v_y1, rfl, y1, q9⟩
          replace y1 := Lib.hid y1
          replace rm := Lib.hid (ri_below rm.out q9)
          replace hri8 := Lib.hid (ri_below hri8.out q9)
          have b9 := Lib.hid (below_on b8.out q9)
          clear q9
          clear rm
          go_wp2_with fail
          refine (hall.out _ hri8.out).mono ?_
          rintro e w10 ⟨v_y2, rfl, y2, q10⟩
          replace y2 := Lib.hid y2
          replace hri8 := Lib.hid (ri_below hri8.out q10)
          replace y1 := Lib.hid (ri_below y1.out q10)
          have b10 := Lib.hid (below_on b9.out q10)
          clear q10
          go_wp2_with fail
          refine (same_self _ _ C _ (by omega) y1.out y2.out).mono ?_
          rintro e w11 ⟨rfl, q11⟩
          replace hri8 := Lib.hid (ri_below hri8.out q11)
          replace y1 := Lib.hid (ri_below y1.out q11)
          replace y2 := Lib.hid (ri_below y2.out q11)
          have b11 := Lib.hid (below_on b10.out q11)
          clear q11
          clear y1 y2
          have b19 := Lib.hid (b11.out.alloc b11.out.size (.cells #[.int .i64 r] 3))
          have l19 := Lib.hid (ri_of_own (ownI_lit w.heap.size w11 [r] #[.int .i64 r] w11.heap.size 1 rfl b11.out.size rfl rfl (by unfold maxLen; omega)))
          go_wp2_with fail
          refine (hlf.out _ _ l19.out).mono ?_
          rintro e w21 ⟨v_z, rfl, z, q21⟩
          obtain ⟨p_z, c_z, rfl⟩ := ri_form z
          replace z := Lib.hid z
          have b21 := Lib.hid (below_on b19.out q21)
          clear q21
          go_wp2_with fail
          go_ret
          exact ⟨rfl, b21.out⟩
  · have hl' : decide (60 < l.length) = true := decide_eq_true (by omega)
    have hl2 : (60 : Int) < (l.length : Int) := by omega
    clear hL hA hwf hdr hcap
    go_enter Tryd.func3, Tryd.ntmps3
    go_wp2_with fail
    refine (hawake.out _).mono ?_
    rintro e w1 ⟨rfl, q1⟩
    have b1 := Lib.hid q1
    clear q1
    go_wp2_with fail
    go_ret
    exact ⟨rfl, b1.out⟩

end Go.Proofs.YtfmnecknfmgggaaDoor
