/- Layer 6: the walk of CasingRows. -/
import Derived.Test.YtapmgakndndbkaaCaW1
namespace Go.Proofs.Ytapmgakndndbkaa
open Go.RowKit Go.Lib

set_option maxHeartbeats 3200000 in
theorem casingRows_walk (va : Value) (a : List Int) (vb : Value) (b : List Int) (w : World) (hva : RI w va a ∧ ∀ x ∈ a, -9223372036854775808 ≤ x ∧ x ≤ 9223372036854775807) (hvb : RI w vb b ∧ ∀ x ∈ b, -9223372036854775808 ≤ x ∧ x ≤ 9223372036854775807) :
    Calls Try.prog 5 #[va, vb] w fun e w' => e = .returned (.bool true) ∧ Below w.heap.size w w' := by
  obtain ⟨hra, hwa⟩ := hva
  obtain ⟨hrb, hwb⟩ := hvb
  obtain ⟨pa, ca, rfl⟩ := ri_form hra
  obtain ⟨pb, cb, rfl⟩ := ri_form hrb
  obtain ⟨i0, hi, hz0, hz1, hz2⟩ := info_parts info_i
  replace hra := Lib.hid hra
  replace hrb := Lib.hid hrb
  by_cases hl : a.length ≤ 60 ∧ b.length ≤ 60
  · obtain ⟨hla, hlb⟩ := hl
    have hl1 : decide ((60 : Int) < (a.length : Int)) = false := decide_eq_false (by omega)
    have hl2 : decide ((60 : Int) < (b.length : Int)) = false := decide_eq_false (by omega)
    have ha := fun W h => all_any (.slice pa a.length ca) a W (by omega) h hwa
    have hb := fun W h => all_any (.slice pb b.length cb) b W (by omega) h hwb
    have hab := fun v W h => all_any v (a ++ b) W (by rw [List.length_append]; omega) h (fun x hx => (List.mem_append.1 hx).elim (hwa x) (hwb x))
    have hna := Cas.all_len a
    have hnb := Cas.all_len b
    rw [Cas.all_append] at hab
    obtain ⟨A, hA⟩ : ∃ A, Cas.allI a = A := ⟨_, rfl⟩
    obtain ⟨B, hB⟩ : ∃ B, Cas.allI b = B := ⟨_, rfl⟩
    rw [hA] at ha hab hna
    rw [hB] at hb hab hnb
    have habl : (a ++ b).length = a.length + b.length := List.length_append
    have hABl : (A ++ B).length = A.length + B.length := List.length_append
    obtain ⟨ab, habc⟩ : ∃ ab, a ++ b = ab := ⟨_, rfl⟩
    obtain ⟨AB, hABc⟩ : ∃ AB, A ++ B = AB := ⟨_, rfl⟩
    rw [habc, hABc] at hab
    rw [habc] at habl
    rw [hABc] at hABl
    replace habc := Lib.hid habc
    replace hABc := Lib.hid hABc
    have hge : decide (ab.length ≤ AB.length) = true := decide_eq_true (by omega)
    have hABn : AB.length ≤ 360 := by omega
    obtain ⟨hna1, hna2⟩ := hna
    obtain ⟨hnb1, hnb2⟩ := hnb
    have hA180 : A.length ≤ 180 := by omega
    have hB180 : B.length ≤ 180 := by omega
    clear hna1 hna2 hnb1 hnb2 habl hABl
    have hsrca := Lib.hid (fun W (h : Below w.heap.size w W) => ri_src (ri_below hra.out h))
    have hsrcb := Lib.hid (fun W (h : Below w.heap.size w W) => ri_src (ri_below hrb.out h))
    replace ha := Lib.hid ha
    replace hb := Lib.hid hb
    replace hab := Lib.hid hab
    clear hA hB hwa hwb
    go_enter Try.func5, Try.ntmps5
    go_wp2_with fail
    refine (awake6 w).mono ?_
    rintro e w1 ⟨rfl, hb1⟩
    have o1 := Lib.hid (ownI_lit w.heap.size w1 [] #[] w1.heap.size 0 rfl hb1.size rfl rfl (by unfold maxLen; omega))
    have b1 : Hid (Below w.heap.size w (w1.alloc (.cells #[] 3))) := Lib.hid (hb1.alloc hb1.size _)
    have s1 := Lib.hid (hsrca.out _ b1.out)
    replace hb1 := Lib.hid hb1
    go_upto_region 5 with (at_builtin; refine wpList_append_src rfl _ _ 22 rfl w.heap.size 3 i0 (.int .i64 0) 8 Try.underlying22 hi hz0 hz1 hz2 rfl _ _ _ rfl o1.out _ _ rfl s1.out (oneCellI _) (by unfold maxLen; first | (simp; done) | (simp; omega)) (by first | (simp; done) | (simp; omega)) b1.out.size ?_; intro v2 w2 ho2 hg2; have o2 := Lib.hid (ownI_of_row (l := a) ho2 (by (try simp); try omega) (by (try simp); try omega)); have b2 := Lib.hid (below_row b1.out hg2 b1.out.size o1.out (Nat.le_refl _)); clear ho2 hg2)
    have s2 := Lib.hid (hsrcb.out _ b2.out)
    go_wp2_with (at_builtin; refine wpList_append_src rfl _ _ 22 rfl w.heap.size 3 i0 (.int .i64 0) 8 Try.underlying22 hi hz0 hz1 hz2 rfl _ _ _ rfl o2.out _ _ rfl s2.out (oneCellI _) (by unfold maxLen; first | (simp; done) | (simp; omega)) (by first | (simp; done) | (simp; omega)) b2.out.size ?_; intro v3 w3 ho3 hg3; have o3 := Lib.hid (ownI_of_row (l := a ++ b) ho3 (by (try simp); try omega) (by (try simp); try omega)); have b3 := Lib.hid (below_row b2.out hg3 b2.out.size o2.out (Nat.le_refl _)); clear ho3 hg3)
    have h3 := Lib.hid (ri_cast (ri_of_own o3.out) habc.out)
    obtain ⟨p3, c3, rfl⟩ := ri_form h3.out
    have b4 := Lib.hid (b3.out.alloc b3.out.size (.cells #[] 3))
    refine (ha.out _ (ri_below hra.out b4.out)).mono ?_
    rintro e w4 ⟨v4, rfl, o4, hb4⟩
    have e4 := Lib.hid (ownI_below (ownI_lit w3.heap.size w3 [] #[] w3.heap.size 0 rfl (Nat.le_refl _) rfl rfl (by unfold maxLen; omega)) hb4)
    have g4 := Lib.hid (below_on (below_new w3 (.cells #[] 3)) hb4)
    have s4 := Lib.hid (ri_src (ri_of_own o4))
    clear o4 hb4 b4 o1 s1 o2 s2 o3
    go_wp2_with (at_builtin; refine wpList_append_src rfl _ _ 22 rfl w3.heap.size 3 i0 (.int .i64 0) 8 Try.underlying22 hi hz0 hz1 hz2 rfl _ _ _ rfl e4.out _ _ rfl s4.out (oneCellI _) (by unfold maxLen; first | (simp; done) | (simp; omega)) (by first | (simp; done) | (simp; omega)) g4.out.size ?_; intro v5 w5 ho5 hg5; have o5 := Lib.hid (ownI_of_row (l := A) ho5 (by (try simp); try omega) (by (try simp); try omega)); have b5 := Lib.hid (below_row g4.out hg5 g4.out.size e4.out (Nat.le_refl _)); clear ho5 hg5)
    refine (hb.out _ (ri_below hrb.out (below_on b3.out b5.out))).mono ?_
    rintro e w6 ⟨v6, rfl, o6, hb6⟩
    have e6 := Lib.hid (ownI_below o5.out hb6)
    have g6 := Lib.hid (below_on b5.out hb6)
    have s6 := Lib.hid (ri_src (ri_of_own o6))
    clear o6 hb6 e4 g4 s4 o5
    go_wp2_with (at_builtin; refine wpList_append_src rfl _ _ 22 rfl w3.heap.size 3 i0 (.int .i64 0) 8 Try.underlying22 hi hz0 hz1 hz2 rfl _ _ _ rfl e6.out _ _ rfl s6.out (oneCellI _) (by unfold maxLen; first | (simp; done) | (simp; omega)) (by first | (simp; done) | (simp; omega)) g6.out.size ?_; intro v7 w7 ho7 hg7; have o7 := Lib.hid (ownI_of_row (l := A ++ B) ho7 (by (try simp); try omega) (by (try simp); try omega)); have b7 := Lib.hid (below_row g6.out hg7 g6.out.size e6.out (Nat.le_refl _)); clear ho7 hg7)
    have h7 := Lib.hid (ri_cast (ri_of_own o7.out) hABc.out)
    obtain ⟨p7, c7, rfl⟩ := ri_form h7.out
    refine (hab.out _ _ (ri_below h3.out b7.out)).mono ?_
    rintro e w8 ⟨v8, rfl, o8, hb8⟩
    have h8 := Lib.hid (ri_of_own o8)
    have r8 := Lib.hid (ri_below h7.out hb8)
    have b8 := Lib.hid (below_on (below_on b3.out b7.out) hb8)
    clear o8 hb8 e6 g6 s6 o7
    go_wp2_with fail
    refine (same_self _ _ AB _ (by omega) h8.out r8.out).mono ?_
    rintro e w9 ⟨rfl, hb9⟩
    replace hb9 := Lib.hid (below_on b8.out hb9)
    go_wp2_with fail
    go_ret
    exact ⟨rfl, hb9.out⟩
  · clear hwa hwb
    have hcase : decide ((60 : Int) < (a.length : Int)) = true ∨ (decide ((60 : Int) < (a.length : Int)) = false ∧ decide ((60 : Int) < (b.length : Int)) = true) := by
      by_cases h : a.length ≤ 60
      · exact .inr ⟨decide_eq_false (by omega), decide_eq_true (by omega)⟩
      · exact .inl (decide_eq_true (by omega))
    clear hl
    rcases hcase with hl1 | ⟨hl1, hl2⟩
    all_goals
      go_enter Try.func5, Try.ntmps5
      go_wp2_with fail
      refine (awake6 w).mono ?_
      rintro e w1 ⟨rfl, hb1⟩
      replace hb1 := Lib.hid hb1
      go_wp2_with fail
      go_ret
      exact ⟨rfl, hb1.out⟩

end Go.Proofs.Ytapmgakndndbkaa
