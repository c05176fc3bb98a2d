/- Layer 5: the walk of PairMade. -/
import Derived.Test.YtgahfbcdnbhikaaDoorPaW0
import Derived.Test.YtgahfbcdnbhikaaDoorPaY
import Derived.Test.YtgahfbcdnbhikaaDoorPrA3
import Derived.Test.YtgahfbcdnbhikaaDoorSa
namespace Go.Proofs.YtgahfbcdnbhikaaDoor
open Go.RowKit Go.Lib

theorem full_of (r : Int) (l : List Int) (h : Dcp.fullI r = l) (hr : -9223372036854775808 ≤ r ∧ r ≤ 9223372036854775807) (w : World) : Calls Tryd.prog 12 #[.int .i64 r] w (FullRes l w) := h ▸ full_any r hr w
theorem isOf (r : Int) (c : Bool) (h : isB r = c) (w : World) : Calls Tryd.prog 15 #[.int .i64 r] w fun e w' => e = .returned (.bool c) ∧ Below w.heap.size w w' := h ▸ is_any r w
theorem markOf (r : Int) (c : Bool) (h : Prp.mrkB r = c) (w : World) : Calls Tryd.prog 14 #[.int .i64 r] w fun e w' => e = .returned (.bool c) ∧ Below w.heap.size w w' := h ▸ mark_any r w
theorem gcbOf (r c : Int) (h : Prp.gcbI r = c) (w : World) : Calls Tryd.prog 16 #[.int .i64 r] w fun e w' => e = .returned (.int .i64 c) ∧ Below w.heap.size w w' := h ▸ gcb_any r w

theorem isB_yes {r : Int} (h : Dcp.fullI r ≠ [r]) : isB r = true := by
  unfold isB
  by_cases h1 : 0xAC00 ≤ r ∧ r ≤ 0xD7A3
  · simp [h1]
  by_cases h2 : 0xFF01 ≤ r ∧ r ≤ 0xFF5E
  · simp [h2]
  cases e : Lk.look Dcp.T r with
  | none => exact absurd (by unfold Dcp.fullI; rw [if_neg h1, if_neg h2, e]; rfl) h
  | some p => simp

theorem isB_not {r : Int} (h : Dcp.fullI r = [r]) (h1 : r < 0xAC00) : isB r = false := by
  unfold isB
  have e : Lk.look Dcp.T r = none := by
    cases e : Lk.look Dcp.T r with
    | none => rfl
    | some p =>
      have h3 : Dcp.fullI r = p := by unfold Dcp.fullI; rw [if_neg (by omega), if_neg (by omega), e]; rfl
      obtain ⟨_, _, c⟩ := Dcp.parts_far _ (Lk.look_mem e) r (by rw [← h3, h]; exact List.mem_cons_self ..)
      exact absurd rfl (c _ (Lk.look_mem e))
  rw [e]
  simp
  omega

set_option maxHeartbeats 6400000 in
theorem pairMade_walk (r : Int) (w : World) (hr : -9223372036854775808 ≤ r ∧ r ≤ 9223372036854775807) :
    Calls Tryd.prog 5 #[.int .i64 r] w fun e w' => e = .returned (.bool true) ∧ Below w.heap.size w w' := by
  cases hk : Par.backI r with
  | none =>
    have h2 := Lib.hid (back_not r hr hk)
    clear hk hr
    go_enter Tryd.func5, Tryd.ntmps5
    go_wp2_with fail
    refine (awake5 w).mono ?_
    rintro e w1 ⟨rfl, hb1⟩
    replace hb1 := Lib.hid hb1
    go_wp2_with fail
    refine (h2.out _).mono ?_
    rintro e w2 ⟨rfl, hb2⟩
    replace hb2 := Lib.hid (below_trans5 hb1.out hb2)
    go_wp2_with fail
    go_ret
    exact ⟨rfl, hb2.out⟩
  | some p =>
    obtain ⟨a, b⟩ := p
    obtain ⟨i0, hi, hz0, hz1, hz2⟩ := info_parts info_i
    obtain ⟨m1, m2, m3, m4, m5, m6, m7, m8, m9, m10⟩ := Par.back_made hk
    have hbk := Lib.hid (back_yes r a b hr hk)
    have hla := (Dcp.full_len a).2
    have hlr := (Dcp.full_len r).2
    obtain ⟨la, hla'⟩ : ∃ la, Dcp.fullI a = la := ⟨_, rfl⟩
    rw [hla'] at hla
    rw [hla', m3] at m1
    rw [m1] at hlr
    have hfa := Lib.hid (full_of a la hla' (by omega))
    have hfb := Lib.hid (full_of b [b] m3 (by omega))
    have hfr := Lib.hid (full_of r _ m1 hr)
    have hma := Lib.hid (markOf a false m2)
    have hib := Lib.hid (isOf b false (isB_not m3 m4))
    have hir := Lib.hid (isOf r true (isB_yes m6))
    have hmr := Lib.hid (markOf r false m7)
    have hsame : sameB (la ++ [b]) (la ++ [b]) = true := decide_eq_true rfl
    replace hsame := Lib.hid hsame
    clear m1 m2 m3 m4 m6 m7 m8 m9 m10 hk hr hla'
    have hbs : (∃ c, (c = 10 ∨ c = 11) ∧ Prp.gcbI b = c) ∨ Prp.mrkB b = true := by
      rcases m5 with h | h | h
      · exact .inr h
      · exact .inl ⟨10, .inl rfl, h⟩
      · exact .inl ⟨11, .inr rfl, h⟩
    clear m5
    by_cases hmb : Prp.mrkB b = true
    · have hmb' := Lib.hid (markOf b true hmb)
      clear hbs hmb
      go_enter Tryd.func5, Tryd.ntmps5
      go_wp2_with fail
      refine (awake5 w).mono ?_
      rintro e w1 ⟨rfl, hb1⟩
      replace hb1 := Lib.hid hb1
      go_wp2_with fail
      refine (hbk.out _).mono ?_
      rintro e w2 ⟨rfl, hb2⟩
      replace hb2 := Lib.hid (below_trans5 hb1.out hb2)
      go_wp2_with fail
      refine (hfa.out _).mono ?_
      rintro e w3 ⟨va, rfl, hva, hb3⟩
      have hb0 : Below w.heap.size w (w2.alloc (.cells #[] 3)) := hb2.out.alloc hb2.out.size _
      have h30 := Lib.hid (ownI_below (ownI_lit w.heap.size w2 [] #[] w2.heap.size 0 rfl hb2.out.size rfl rfl (by unfold maxLen; omega)) hb3)
      have hsa := Lib.hid (ri_src (ri_of_own hva))
      have hbel3 := Lib.hid (below_trans5 hb0 hb3)
      clear hb3 hva hb0
      go_wp2_with (at_builtin; refine wpList_append_src rfl _ _ 28 rfl w.heap.size 3 i0 (.int .i64 0) 8 Tryd.underlying28 hi hz0 hz1 hz2 rfl _ _ _ rfl h30.out _ _ rfl hsa.out (oneCellI la) (by rw [List.length_map]; unfold maxLen; simp; omega) (by rw [List.length_map]; simp; omega) hbel3.out.size ?_; intro v4 w4 hown4 hgrow4; have ho4 := Lib.hid (ownI_of_row (l := la) hown4 (by simp) (by simp)); have hbel4 := Lib.hid (below_row hbel3.out hgrow4 hbel3.out.size h30.out (Nat.le_refl _)); clear hown4 hgrow4)
      refine (hfb.out _).mono ?_
      rintro e w5 ⟨vb, rfl, hvb, hb5⟩
      have ho5 := Lib.hid (ownI_below ho4.out hb5)
      have hsb := Lib.hid (ri_src (ri_of_own hvb))
      have hbel5 := Lib.hid (below_trans5 hbel4.out hb5)
      clear hb5 hvb
      go_wp2_with (at_builtin; refine wpList_append_src rfl _ _ 28 rfl w.heap.size 3 i0 (.int .i64 0) 8 Tryd.underlying28 hi hz0 hz1 hz2 rfl _ _ _ rfl ho5.out _ _ rfl hsb.out (oneCellI [b]) (by rw [List.length_map]; unfold maxLen; simp; omega) (by rw [List.length_map]; simp; omega) hbel5.out.size ?_; intro v6 w6 hown6 hgrow6; have ho6 := Lib.hid (ownI_of_row (l := la ++ [b]) hown6 (by simp) (by simp)); have hbel6 := Lib.hid (below_row hbel5.out hgrow6 hbel5.out.size ho5.out (Nat.le_refl _)); clear hown6 hgrow6)
      refine (hfr.out _).mono ?_
      rintro e w7 ⟨vr, rfl, hvr, hb7⟩
      have h1 := ri_of_own hvr
      have h2 := ri_of_own (ownI_below ho6.out hb7)
      have hbel7 := Lib.hid (below_trans5 hbel6.out hb7)
      have hsm := same_any vr v6 (la ++ [b]) (la ++ [b]) w7 (by omega) h1 h2
      rw [hsame.out] at hsm
      replace hsm := Lib.hid hsm
      clear hb7 hvr h1 h2
      go_wp2_with fail
      refine hsm.out.mono ?_
      rintro e w8 ⟨rfl, n8, rfl⟩
      have hb8 := Lib.hid (below_trans5 hbel7.out (drewN_below w7 n8))
      go_wp2_with fail
      refine (hma.out _).mono ?_
      rintro e w9 ⟨rfl, hb9⟩
      replace hb9 := Lib.hid (below_trans5 hb8.out hb9)
      go_wp2_with fail
      refine (hib.out _).mono ?_
      rintro e w10 ⟨rfl, hb10⟩
      replace hb10 := Lib.hid (below_trans5 hb9.out hb10)
      go_wp2_with fail
      refine (hmb'.out _).mono ?_
      rintro e w11 ⟨rfl, hb11⟩
      replace hb11 := Lib.hid (below_trans5 hb10.out hb11)
      go_wp2_with fail
      refine (hir.out _).mono ?_
      rintro e w12 ⟨rfl, hb12⟩
      replace hb12 := Lib.hid (below_trans5 hb11.out hb12)
      go_wp2_with fail
      refine (hmr.out _).mono ?_
      rintro e w13 ⟨rfl, hb13⟩
      replace hb13 := Lib.hid (below_trans5 hb12.out hb13)
      go_wp2_with fail
      go_ret
      exact ⟨rfl, hb13.out⟩
    · have hmb' := Lib.hid (markOf b false (by simpa using hmb))
      obtain ⟨c, hc, hg⟩ := hbs.resolve_right hmb
      have hgb := Lib.hid (gcbOf b c hg)
      clear hbs hmb hg
      rcases hc with rfl | rfl
      ·
        go_enter Tryd.func5, Tryd.ntmps5
        go_wp2_with fail
        refine (awake5 w).mono ?_
        rintro e w1 ⟨rfl, hb1⟩
        replace hb1 := Lib.hid hb1
        go_wp2_with fail
        refine (hbk.out _).mono ?_
        rintro e w2 ⟨rfl, hb2⟩
        replace hb2 := Lib.hid (below_trans5 hb1.out hb2)
        go_wp2_with fail
        refine (hfa.out _).mono ?_
        rintro e w3 ⟨va, rfl, hva, hb3⟩
        have hb0 : Below w.heap.size w (w2.alloc (.cells #[] 3)) := hb2.out.alloc hb2.out.size _
        have h30 := Lib.hid (ownI_below (ownI_lit w.heap.size w2 [] #[] w2.heap.size 0 rfl hb2.out.size rfl rfl (by unfold maxLen; omega)) hb3)
        have hsa := Lib.hid (ri_src (ri_of_own hva))
        have hbel3 := Lib.hid (below_trans5 hb0 hb3)
        clear hb3 hva hb0
        go_wp2_with (at_builtin; refine wpList_append_src rfl _ _ 28 rfl w.heap.size 3 i0 (.int .i64 0) 8 Tryd.underlying28 hi hz0 hz1 hz2 rfl _ _ _ rfl h30.out _ _ rfl hsa.out (oneCellI la) (by rw [List.length_map]; unfold maxLen; simp; omega) (by rw [List.length_map]; simp; omega) hbel3.out.size ?_; intro v4 w4 hown4 hgrow4; have ho4 := Lib.hid (ownI_of_row (l := la) hown4 (by simp) (by simp)); have hbel4 := Lib.hid (below_row hbel3.out hgrow4 hbel3.out.size h30.out (Nat.le_refl _)); clear hown4 hgrow4)
        refine (hfb.out _).mono ?_
        rintro e w5 ⟨vb, rfl, hvb, hb5⟩
        have ho5 := Lib.hid (ownI_below ho4.out hb5)
        have hsb := Lib.hid (ri_src (ri_of_own hvb))
        have hbel5 := Lib.hid (below_trans5 hbel4.out hb5)
        clear hb5 hvb
        go_wp2_with (at_builtin; refine wpList_append_src rfl _ _ 28 rfl w.heap.size 3 i0 (.int .i64 0) 8 Tryd.underlying28 hi hz0 hz1 hz2 rfl _ _ _ rfl ho5.out _ _ rfl hsb.out (oneCellI [b]) (by rw [List.length_map]; unfold maxLen; simp; omega) (by rw [List.length_map]; simp; omega) hbel5.out.size ?_; intro v6 w6 hown6 hgrow6; have ho6 := Lib.hid (ownI_of_row (l := la ++ [b]) hown6 (by simp) (by simp)); have hbel6 := Lib.hid (below_row hbel5.out hgrow6 hbel5.out.size ho5.out (Nat.le_refl _)); clear hown6 hgrow6)
        refine (hfr.out _).mono ?_
        rintro e w7 ⟨vr, rfl, hvr, hb7⟩
        have h1 := ri_of_own hvr
        have h2 := ri_of_own (ownI_below ho6.out hb7)
        have hbel7 := Lib.hid (below_trans5 hbel6.out hb7)
        have hsm := same_any vr v6 (la ++ [b]) (la ++ [b]) w7 (by omega) h1 h2
        rw [hsame.out] at hsm
        replace hsm := Lib.hid hsm
        clear hb7 hvr h1 h2
        go_wp2_with fail
        refine hsm.out.mono ?_
        rintro e w8 ⟨rfl, n8, rfl⟩
        have hb8 := Lib.hid (below_trans5 hbel7.out (drewN_below w7 n8))
        go_wp2_with fail
        refine (hma.out _).mono ?_
        rintro e w9 ⟨rfl, hb9⟩
        replace hb9 := Lib.hid (below_trans5 hb8.out hb9)
        go_wp2_with fail
        refine (hib.out _).mono ?_
        rintro e w10 ⟨rfl, hb10⟩
        replace hb10 := Lib.hid (below_trans5 hb9.out hb10)
        go_wp2_with fail
        refine (hmb'.out _).mono ?_
        rintro e w11 ⟨rfl, hb11⟩
        replace hb11 := Lib.hid (below_trans5 hb10.out hb11)
        go_wp2_with fail
        refine (hgb.out _).mono ?_
        rintro e w12 ⟨rfl, hb12⟩
        replace hb12 := Lib.hid (below_trans5 hb11.out hb12)
        go_wp2_with fail
        refine (hir.out _).mono ?_
        rintro e w13 ⟨rfl, hb13⟩
        replace hb13 := Lib.hid (below_trans5 hb12.out hb13)
        go_wp2_with fail
        refine (hmr.out _).mono ?_
        rintro e w14 ⟨rfl, hb14⟩
        replace hb14 := Lib.hid (below_trans5 hb13.out hb14)
        go_wp2_with fail
        go_ret
        exact ⟨rfl, hb14.out⟩
      ·
        go_enter Tryd.func5, Tryd.ntmps5
        go_wp2_with fail
        refine (awake5 w).mono ?_
        rintro e w1 ⟨rfl, hb1⟩
        replace hb1 := Lib.hid hb1
        go_wp2_with fail
        refine (hbk.out _).mono ?_
        rintro e w2 ⟨rfl, hb2⟩
        replace hb2 := Lib.hid (below_trans5 hb1.out hb2)
        go_wp2_with fail
        refine (hfa.out _).mono ?_
        rintro e w3 ⟨va, rfl, hva, hb3⟩
        have hb0 : Below w.heap.size w (w2.alloc (.cells #[] 3)) := hb2.out.alloc hb2.out.size _
        have h30 := Lib.hid (ownI_below (ownI_lit w.heap.size w2 [] #[] w2.heap.size 0 rfl hb2.out.size rfl rfl (by unfold maxLen; omega)) hb3)
        have hsa := Lib.hid (ri_src (ri_of_own hva))
        have hbel3 := Lib.hid (below_trans5 hb0 hb3)
        clear hb3 hva hb0
        go_wp2_with (at_builtin; refine wpList_append_src rfl _ _ 28 rfl w.heap.size 3 i0 (.int .i64 0) 8 Tryd.underlying28 hi hz0 hz1 hz2 rfl _ _ _ rfl h30.out _ _ rfl hsa.out (oneCellI la) (by rw [List.length_map]; unfold maxLen; simp; omega) (by rw [List.length_map]; simp; omega) hbel3.out.size ?_; intro v4 w4 hown4 hgrow4; have ho4 := Lib.hid (ownI_of_row (l := la) hown4 (by simp) (by simp)); have hbel4 := Lib.hid (below_row hbel3.out hgrow4 hbel3.out.size h30.out (Nat.le_refl _)); clear hown4 hgrow4)
        refine (hfb.out _).mono ?_
        rintro e w5 ⟨vb, rfl, hvb, hb5⟩
        have ho5 := Lib.hid (ownI_below ho4.out hb5)
        have hsb := Lib.hid (ri_src (ri_of_own hvb))
        have hbel5 := Lib.hid (below_trans5 hbel4.out hb5)
        clear hb5 hvb
        go_wp2_with (at_builtin; refine wpList_append_src rfl _ _ 28 rfl w.heap.size 3 i0 (.int .i64 0) 8 Tryd.underlying28 hi hz0 hz1 hz2 rfl _ _ _ rfl ho5.out _ _ rfl hsb.out (oneCellI [b]) (by rw [List.length_map]; unfold maxLen; simp; omega) (by rw [List.length_map]; simp; omega) hbel5.out.size ?_; intro v6 w6 hown6 hgrow6; have ho6 := Lib.hid (ownI_of_row (l := la ++ [b]) hown6 (by simp) (by simp)); have hbel6 := Lib.hid (below_row hbel5.out hgrow6 hbel5.out.size ho5.out (Nat.le_refl _)); clear hown6 hgrow6)
        refine (hfr.out _).mono ?_
        rintro e w7 ⟨vr, rfl, hvr, hb7⟩
        have h1 := ri_of_own hvr
        have h2 := ri_of_own (ownI_below ho6.out hb7)
        have hbel7 := Lib.hid (below_trans5 hbel6.out hb7)
        have hsm := same_any vr v6 (la ++ [b]) (la ++ [b]) w7 (by omega) h1 h2
        rw [hsame.out] at hsm
        replace hsm := Lib.hid hsm
        clear hb7 hvr h1 h2
        go_wp2_with fail
        refine hsm.out.mono ?_
        rintro e w8 ⟨rfl, n8, rfl⟩
        have hb8 := Lib.hid (below_trans5 hbel7.out (drewN_below w7 n8))
        go_wp2_with fail
        refine (hma.out _).mono ?_
        rintro e w9 ⟨rfl, hb9⟩
        replace hb9 := Lib.hid (below_trans5 hb8.out hb9)
        go_wp2_with fail
        refine (hib.out _).mono ?_
        rintro e w10 ⟨rfl, hb10⟩
        replace hb10 := Lib.hid (below_trans5 hb9.out hb10)
        go_wp2_with fail
        refine (hmb'.out _).mono ?_
        rintro e w11 ⟨rfl, hb11⟩
        replace hb11 := Lib.hid (below_trans5 hb10.out hb11)
        go_wp2_with fail
        refine (hgb.out _).mono ?_
        rintro e w12 ⟨rfl, hb12⟩
        replace hb12 := Lib.hid (below_trans5 hb11.out hb12)
        go_wp2_with fail
        refine (hgb.out _).mono ?_
        rintro e w13 ⟨rfl, hb13⟩
        replace hb13 := Lib.hid (below_trans5 hb12.out hb13)
        go_wp2_with fail
        refine (hir.out _).mono ?_
        rintro e w14 ⟨rfl, hb14⟩
        replace hb14 := Lib.hid (below_trans5 hb13.out hb14)
        go_wp2_with fail
        refine (hmr.out _).mono ?_
        rintro e w15 ⟨rfl, hb15⟩
        replace hb15 := Lib.hid (below_trans5 hb14.out hb15)
        go_wp2_with fail
        go_ret
        exact ⟨rfl, hb15.out⟩

end Go.Proofs.YtgahfbcdnbhikaaDoor
