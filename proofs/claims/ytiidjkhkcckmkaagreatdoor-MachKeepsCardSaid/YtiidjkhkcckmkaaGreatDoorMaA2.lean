/- Layer 15: the code's Sane. -/
import Derived.Test.YtiidjkhkcckmkaaGreatDoorMaA1
import Derived.Test.YtiidjkhkcckmkaaGreatDoorDcP
import Derived.Test.YtiidjkhkcckmkaaGreatDoorNoQ
import Derived.Test.YtiidjkhkcckmkaaGreatDoorSgP
namespace Go.Proofs.YtiidjkhkcckmkaaGreatDoor
set_option linter.unusedSimpArgs false
set_option linter.unusedVariables false
open Go.RowKit Go.Lib
open Mch (MS)
theorem seg_off15 {s : Clu.CS} (h : Sgm.saneB [] s = true) : s.on = false := by
  unfold Sgm.saneB at h
  simp at h
  rcases h with ⟨h1, h2⟩
  simpa using h2
theorem all_contains15 (c : List Int) : (c.all fun x => decide (x ≠ -1)) = !(c.contains (-1)) := by
  induction c with
  | nil => rfl
  | cons x t ih =>
    rw [List.all_cons, List.contains_cons, ih]
    by_cases h : x = -1
    · subst h
      simp
    · have h2 : ((-1 : Int) == x) = false := beq_eq_false_iff_ne.2 (fun e => h e.symm)
      simp [h, h2]
set_option maxHeartbeats 12800000 in
set_option maxRecDepth 100000 in
theorem sane15_k0 (v : Value) (m : MS) (w : World) (hk : m.kind = 0) (hT : Tabs w) (hs : Mch.Small m) (hv : RM w v m) : Calls Tryz.prog 20 #[v] w fun e w' => e = .returned (.bool (Mch.saneM m)) ∧ Below w.heap.size w w' := by
  have hv0 := hv
  obtain ⟨vn, vg, vc, rfl, hvn, hvg, hvc⟩ := hv
  obtain ⟨pn, cn, rfl⟩ := ri_form hvn
  obtain ⟨pg, cg, rfl⟩ := ri_form hvg
  obtain ⟨pc, cc, rfl⟩ := ri_form hvc
  obtain ⟨hsd, hsn, hsg, hsc⟩ := hs
  obtain ⟨kind, d, n, g, ⟨on, kd, pi, od⟩, c⟩ := m
  unfold mchV strV
  dsimp only at hvn hvg hvc hsd hsn hsg hsc hk ⊢
  obtain rfl := hk
  have hA := fun W' hT' => Tx.sane_any ⟨d.toArray⟩ W' hT'
  rw [Dec.saneB_eq] at hA
  obtain ⟨S, hS⟩ : ∃ S : ByteArray, (⟨d.toArray⟩ : ByteArray) = S := ⟨_, rfl⟩
  have hSe : d = [] → S = ⟨#[]⟩ := by rintro rfl; exact hS.symm
  have hSn : ¬ d = [] → ¬ S.size = 0 := fun h e => h (by rw [← hS] at e; exact List.length_eq_zero_iff.1 (by simpa [ByteArray.size] using e))
  rw [hS] at hA ⊢
  have hb := below_new w (.cells #[.int .i64 0, .string S, .slice pn n.length cn, .slice pg g.length cg, .bool on, .int .i64 kd, .bool pi, .bool od, .slice pc c.length cc] 41)
  have hx := Lib.hid (blk_new w #[.int .i64 0, .string S, .slice pn n.length cn, .slice pg g.length cg, .bool on, .int .i64 kd, .bool pi, .bool od, .slice pc c.length cc] 41)
  obtain ⟨W, hW⟩ : ∃ W, w.alloc (.cells #[.int .i64 0, .string S, .slice pn n.length cn, .slice pg g.length cg, .bool on, .int .i64 kd, .bool pi, .bool od, .slice pc c.length cc] 41) = W := ⟨_, rfl⟩
  rw [hW] at hb hx
  have hvnW := Lib.hid (ri_below hvn hb)
  have hvgW := Lib.hid (ri_below hvg hb)
  have hvcW := Lib.hid (ri_below hvc hb)
  have hTW := Lib.hid (tabs_below15 hT hb)
  have hBn := fun W' (h : RI W' (.slice pn n.length cn) n) => saneC9 _ n W' (by omega) h
  have hCg := fun W' (h : RI W' (.slice pg g.length cg) g) => sane12_any _ g ⟨on, kd, pi, od⟩ W' (by omega) h
  have hCt := fun W' (h : RI W' (.slice pc c.length cc) c) => contains15_any _ c (-1) W' (by omega) h
  unfold sgV at hCg
  dsimp only at hCg
  obtain ⟨R, hR⟩ : ∃ R, Mch.saneM ⟨0, d, n, g, ⟨on, kd, pi, od⟩, c⟩ = R := ⟨_, rfl⟩
  rw [hR]
  unfold Mch.saneM at hR
  dsimp only at hR
  rw [all_contains15] at hR
  obtain ⟨A, hAe⟩ : ∃ A, Dec.saneL d = A := ⟨_, rfl⟩
  obtain ⟨Bn, hBe⟩ : ∃ Bn, Nor.saneB n = Bn := ⟨_, rfl⟩
  obtain ⟨Cg, hCe⟩ : ∃ Cg, Sgm.saneB g ⟨on, kd, pi, od⟩ = Cg := ⟨_, rfl⟩
  obtain ⟨Ct, hCte⟩ : ∃ Ct, c.contains (-1) = Ct := ⟨_, rfl⟩
  have hon : Cg = true → g = [] → on = false := by rintro rfl rfl; exact seg_off15 hCe
  rw [hAe] at hA hR
  rw [hBe] at hBn hR
  rw [hCe] at hCg hR
  rw [hCte] at hCt hR
  have hCt0 : c = [] → Ct = false := by rintro rfl; rw [← hCte]; rfl
  replace hA := Lib.hid hA
  replace hBn := Lib.hid hBn
  replace hCg := Lib.hid hCg
  replace hCt := Lib.hid hCt
  replace hR := Lib.hid hR
  replace hb := Lib.hid hb
  replace hW := Lib.hid hW
  replace hon := Lib.hid hon
  replace hSe := Lib.hid hSe
  replace hSn := Lib.hid hSn
  replace hCt0 := Lib.hid hCt0
  clear hvn hvg hvc hAe hBe hCe hCte hS hT hv0
  go_enter Tryz.func20, Tryz.ntmps20
  go_upto_region 1 with (fail)
  rw [hW.out]
  obtain ⟨c0, c1, c2, c3, c4, c5, c6, c7, c8⟩ := held9 hx.out
  go_upto_region 2 with (fail)
  refine wp_region_lit ?_
  simp only [List.append]
  go_wp2_with fail
  refine (hA.out _ hTW.out).mono ?_
  rintro e w1 ⟨rfl, q1⟩
  have x1 := Lib.hid (blk_below hx.out q1)
  have b1 := Lib.hid (below_on hb.out q1)
  have n1 := Lib.hid (ri_below hvnW.out q1)
  have g1 := Lib.hid (ri_below hvgW.out q1)
  have v1 := Lib.hid (ri_below hvcW.out q1)
  clear c0 c1 c2 c3 c4 c5 c6 c7 c8 q1
  obtain ⟨c0, c1, c2, c3, c4, c5, c6, c7, c8⟩ := held9 x1.out
  rcases A with _ | _
  · skip
    go_wp2_with fail
    go_ret
    exact ⟨ret_bool (by rw [← hR.out]; simp), b1.out⟩
  · skip
    go_wp2_with fail
    refine (hBn.out _ n1.out).mono ?_
    rintro e w2 ⟨rfl, q2⟩
    have x2 := Lib.hid (blk_below x1.out q2)
    have b2 := Lib.hid (below_on b1.out q2)
    have g2 := Lib.hid (ri_below g1.out q2)
    have v2 := Lib.hid (ri_below v1.out q2)
    clear c0 c1 c2 c3 c4 c5 c6 c7 c8 q2
    obtain ⟨c0, c1, c2, c3, c4, c5, c6, c7, c8⟩ := held9 x2.out
    rcases Bn with _ | _
    · skip
      go_wp2_with fail
      go_ret
      exact ⟨ret_bool (by rw [← hR.out]; simp), b2.out⟩
    · skip
      by_cases hn : n = []
      · skip
        subst hn
        go_wp2_with fail
        refine (hCg.out _ g2.out).mono ?_
        rintro e w3 ⟨rfl, q3⟩
        have x3 := Lib.hid (blk_below x2.out q3)
        have b3 := Lib.hid (below_on b2.out q3)
        have v3 := Lib.hid (ri_below v2.out q3)
        clear c0 c1 c2 c3 c4 c5 c6 c7 c8 q3
        obtain ⟨c0, c1, c2, c3, c4, c5, c6, c7, c8⟩ := held9 x3.out
        rcases Cg with _ | _
        · skip
          go_wp2_with fail
          go_ret
          exact ⟨ret_bool (by rw [← hR.out]; simp), b3.out⟩
        · skip
          by_cases hg : g = []
          · skip
            obtain rfl := hon.out rfl hg
            subst hg
            by_cases h32 : c.length ≤ 32
            · skip
              have t32 : (c.length : Int) ≤ 32 := by omega
              by_cases hc : c = []
              · skip
                subst hc
                go_wp2_with fail
                refine (hCt.out _ v3.out).mono ?_
                rintro e w4 ⟨rfl, rfl⟩
                go_wp2_with fail
                go_ret
                exact ⟨ret_bool (by rw [← hR.out]; simp), b3.out⟩
              · skip
                have tc : ¬ ((c.length : Int) = 0) := fun e => hc (List.eq_nil_of_length_eq_zero (by omega))
                have uc : ((c.length : Int) == 0) = false := beq_eq_false_iff_ne.2 tc
                clear tc
                go_wp2_with fail
                go_ret
                exact ⟨ret_bool (by rw [← hR.out]; simp [hc]), b3.out⟩
            · skip
              have t32 : ¬ (c.length : Int) ≤ 32 := by omega
              go_wp2_with fail
              go_ret
              exact ⟨ret_bool (by rw [← hR.out]; simp [h32]), b3.out⟩
          · skip
            have tg : ¬ ((g.length : Int) = 0) := fun e => hg (List.eq_nil_of_length_eq_zero (by omega))
            have ug : ((g.length : Int) == 0) = false := beq_eq_false_iff_ne.2 tg
            clear tg
            go_wp2_with fail
            go_ret
            exact ⟨ret_bool (by rw [← hR.out]; simp [hg]), b3.out⟩
      · skip
        have tn : ¬ ((n.length : Int) = 0) := fun e => hn (List.eq_nil_of_length_eq_zero (by omega))
        have un : ((n.length : Int) == 0) = false := beq_eq_false_iff_ne.2 tn
        clear tn
        go_wp2_with fail
        go_ret
        exact ⟨ret_bool (by rw [← hR.out]; simp [hn]), b2.out⟩
set_option maxHeartbeats 12800000 in
set_option maxRecDepth 100000 in
theorem sane15_k1 (v : Value) (m : MS) (w : World) (hk : m.kind = 1) (hT : Tabs w) (hs : Mch.Small m) (hv : RM w v m) : Calls Tryz.prog 20 #[v] w fun e w' => e = .returned (.bool (Mch.saneM m)) ∧ Below w.heap.size w w' := by
  have hv0 := hv
  obtain ⟨vn, vg, vc, rfl, hvn, hvg, hvc⟩ := hv
  obtain ⟨pn, cn, rfl⟩ := ri_form hvn
  obtain ⟨pg, cg, rfl⟩ := ri_form hvg
  obtain ⟨pc, cc, rfl⟩ := ri_form hvc
  obtain ⟨hsd, hsn, hsg, hsc⟩ := hs
  obtain ⟨kind, d, n, g, ⟨on, kd, pi, od⟩, c⟩ := m
  unfold mchV strV
  dsimp only at hvn hvg hvc hsd hsn hsg hsc hk ⊢
  obtain rfl := hk
  have hA := fun W' hT' => Tx.sane_any ⟨d.toArray⟩ W' hT'
  rw [Dec.saneB_eq] at hA
  obtain ⟨S, hS⟩ : ∃ S : ByteArray, (⟨d.toArray⟩ : ByteArray) = S := ⟨_, rfl⟩
  have hSe : d = [] → S = ⟨#[]⟩ := by rintro rfl; exact hS.symm
  have hSn : ¬ d = [] → ¬ S.size = 0 := fun h e => h (by rw [← hS] at e; exact List.length_eq_zero_iff.1 (by simpa [ByteArray.size] using e))
  rw [hS] at hA ⊢
  have hb := below_new w (.cells #[.int .i64 1, .string S, .slice pn n.length cn, .slice pg g.length cg, .bool on, .int .i64 kd, .bool pi, .bool od, .slice pc c.length cc] 41)
  have hx := Lib.hid (blk_new w #[.int .i64 1, .string S, .slice pn n.length cn, .slice pg g.length cg, .bool on, .int .i64 kd, .bool pi, .bool od, .slice pc c.length cc] 41)
  obtain ⟨W, hW⟩ : ∃ W, w.alloc (.cells #[.int .i64 1, .string S, .slice pn n.length cn, .slice pg g.length cg, .bool on, .int .i64 kd, .bool pi, .bool od, .slice pc c.length cc] 41) = W := ⟨_, rfl⟩
  rw [hW] at hb hx
  have hvnW := Lib.hid (ri_below hvn hb)
  have hvgW := Lib.hid (ri_below hvg hb)
  have hvcW := Lib.hid (ri_below hvc hb)
  have hTW := Lib.hid (tabs_below15 hT hb)
  have hBn := fun W' (h : RI W' (.slice pn n.length cn) n) => saneC9 _ n W' (by omega) h
  have hCg := fun W' (h : RI W' (.slice pg g.length cg) g) => sane12_any _ g ⟨on, kd, pi, od⟩ W' (by omega) h
  have hCt := fun W' (h : RI W' (.slice pc c.length cc) c) => contains15_any _ c (-1) W' (by omega) h
  unfold sgV at hCg
  dsimp only at hCg
  obtain ⟨R, hR⟩ : ∃ R, Mch.saneM ⟨1, d, n, g, ⟨on, kd, pi, od⟩, c⟩ = R := ⟨_, rfl⟩
  rw [hR]
  unfold Mch.saneM at hR
  dsimp only at hR
  rw [all_contains15] at hR
  obtain ⟨A, hAe⟩ : ∃ A, Dec.saneL d = A := ⟨_, rfl⟩
  obtain ⟨Bn, hBe⟩ : ∃ Bn, Nor.saneB n = Bn := ⟨_, rfl⟩
  obtain ⟨Cg, hCe⟩ : ∃ Cg, Sgm.saneB g ⟨on, kd, pi, od⟩ = Cg := ⟨_, rfl⟩
  obtain ⟨Ct, hCte⟩ : ∃ Ct, c.contains (-1) = Ct := ⟨_, rfl⟩
  have hon : Cg = true → g = [] → on = false := by rintro rfl rfl; exact seg_off15 hCe
  rw [hAe] at hA hR
  rw [hBe] at hBn hR
  rw [hCe] at hCg hR
  rw [hCte] at hCt hR
  have hCt0 : c = [] → Ct = false := by rintro rfl; rw [← hCte]; rfl
  replace hA := Lib.hid hA
  replace hBn := Lib.hid hBn
  replace hCg := Lib.hid hCg
  replace hCt := Lib.hid hCt
  replace hR := Lib.hid hR
  replace hb := Lib.hid hb
  replace hW := Lib.hid hW
  replace hon := Lib.hid hon
  replace hSe := Lib.hid hSe
  replace hSn := Lib.hid hSn
  replace hCt0 := Lib.hid hCt0
  clear hvn hvg hvc hAe hBe hCe hCte hS hT hv0
  go_enter Tryz.func20, Tryz.ntmps20
  go_upto_region 1 with (fail)
  rw [hW.out]
  obtain ⟨c0, c1, c2, c3, c4, c5, c6, c7, c8⟩ := held9 hx.out
  go_upto_region 2 with (fail)
  refine wp_region_lit ?_
  simp only [List.append]
  go_wp2_with fail
  refine (hA.out _ hTW.out).mono ?_
  rintro e w1 ⟨rfl, q1⟩
  have x1 := Lib.hid (blk_below hx.out q1)
  have b1 := Lib.hid (below_on hb.out q1)
  have n1 := Lib.hid (ri_below hvnW.out q1)
  have g1 := Lib.hid (ri_below hvgW.out q1)
  have v1 := Lib.hid (ri_below hvcW.out q1)
  clear c0 c1 c2 c3 c4 c5 c6 c7 c8 q1
  obtain ⟨c0, c1, c2, c3, c4, c5, c6, c7, c8⟩ := held9 x1.out
  rcases A with _ | _
  · skip
    go_wp2_with fail
    go_ret
    exact ⟨ret_bool (by rw [← hR.out]; simp), b1.out⟩
  · skip
    by_cases hd : d = []
    · skip
      have hS0 := hSe.out hd
      subst hS0
      subst hd
      clear hSn
      go_wp2_with fail
      refine (hBn.out _ n1.out).mono ?_
      rintro e w2 ⟨rfl, q2⟩
      have x2 := Lib.hid (blk_below x1.out q2)
      have b2 := Lib.hid (below_on b1.out q2)
      have g2 := Lib.hid (ri_below g1.out q2)
      have v2 := Lib.hid (ri_below v1.out q2)
      clear c0 c1 c2 c3 c4 c5 c6 c7 c8 q2
      obtain ⟨c0, c1, c2, c3, c4, c5, c6, c7, c8⟩ := held9 x2.out
      rcases Bn with _ | _
      · skip
        go_wp2_with fail
        go_ret
        exact ⟨ret_bool (by rw [← hR.out]; simp), b2.out⟩
      · skip
        go_wp2_with fail
        refine (hCg.out _ g2.out).mono ?_
        rintro e w3 ⟨rfl, q3⟩
        have x3 := Lib.hid (blk_below x2.out q3)
        have b3 := Lib.hid (below_on b2.out q3)
        have v3 := Lib.hid (ri_below v2.out q3)
        clear c0 c1 c2 c3 c4 c5 c6 c7 c8 q3
        obtain ⟨c0, c1, c2, c3, c4, c5, c6, c7, c8⟩ := held9 x3.out
        rcases Cg with _ | _
        · skip
          go_wp2_with fail
          go_ret
          exact ⟨ret_bool (by rw [← hR.out]; simp), b3.out⟩
        · skip
          by_cases hg : g = []
          · skip
            obtain rfl := hon.out rfl hg
            subst hg
            by_cases h32 : c.length ≤ 32
            · skip
              have t32 : (c.length : Int) ≤ 32 := by omega
              by_cases hc : c = []
              · skip
                subst hc
                go_wp2_with fail
                refine (hCt.out _ v3.out).mono ?_
                rintro e w4 ⟨rfl, rfl⟩
                go_wp2_with fail
                go_ret
                exact ⟨ret_bool (by rw [← hR.out]; simp), b3.out⟩
              · skip
                have tc : ¬ ((c.length : Int) = 0) := fun e => hc (List.eq_nil_of_length_eq_zero (by omega))
                have uc : ((c.length : Int) == 0) = false := beq_eq_false_iff_ne.2 tc
                clear tc
                go_wp2_with fail
                go_ret
                exact ⟨ret_bool (by rw [← hR.out]; simp [hc]), b3.out⟩
            · skip
              have t32 : ¬ (c.length : Int) ≤ 32 := by omega
              go_wp2_with fail
              go_ret
              exact ⟨ret_bool (by rw [← hR.out]; simp [h32]), b3.out⟩
          · skip
            have tg : ¬ ((g.length : Int) = 0) := fun e => hg (List.eq_nil_of_length_eq_zero (by omega))
            have ug : ((g.length : Int) == 0) = false := beq_eq_false_iff_ne.2 tg
            clear tg
            go_wp2_with fail
            go_ret
            exact ⟨ret_bool (by rw [← hR.out]; simp [hg]), b3.out⟩
    · skip
      have uS : ((S.size : Int) == 0) = false := beq_eq_false_iff_ne.2 (by have := hSn.out hd; omega)
      go_wp2_with fail
      go_ret
      exact ⟨ret_bool (by rw [← hR.out]; simp [hd]), b1.out⟩
set_option maxHeartbeats 12800000 in
set_option maxRecDepth 100000 in
theorem sane15_k2 (v : Value) (m : MS) (w : World) (hk : m.kind = 2) (hT : Tabs w) (hs : Mch.Small m) (hv : RM w v m) : Calls Tryz.prog 20 #[v] w fun e w' => e = .returned (.bool (Mch.saneM m)) ∧ Below w.heap.size w w' := by
  have hv0 := hv
  obtain ⟨vn, vg, vc, rfl, hvn, hvg, hvc⟩ := hv
  obtain ⟨pn, cn, rfl⟩ := ri_form hvn
  obtain ⟨pg, cg, rfl⟩ := ri_form hvg
  obtain ⟨pc, cc, rfl⟩ := ri_form hvc
  obtain ⟨hsd, hsn, hsg, hsc⟩ := hs
  obtain ⟨kind, d, n, g, ⟨on, kd, pi, od⟩, c⟩ := m
  unfold mchV strV
  dsimp only at hvn hvg hvc hsd hsn hsg hsc hk ⊢
  obtain rfl := hk
  have hA := fun W' hT' => Tx.sane_any ⟨d.toArray⟩ W' hT'
  rw [Dec.saneB_eq] at hA
  obtain ⟨S, hS⟩ : ∃ S : ByteArray, (⟨d.toArray⟩ : ByteArray) = S := ⟨_, rfl⟩
  have hSe : d = [] → S = ⟨#[]⟩ := by rintro rfl; exact hS.symm
  have hSn : ¬ d = [] → ¬ S.size = 0 := fun h e => h (by rw [← hS] at e; exact List.length_eq_zero_iff.1 (by simpa [ByteArray.size] using e))
  rw [hS] at hA ⊢
  have hb := below_new w (.cells #[.int .i64 2, .string S, .slice pn n.length cn, .slice pg g.length cg, .bool on, .int .i64 kd, .bool pi, .bool od, .slice pc c.length cc] 41)
  have hx := Lib.hid (blk_new w #[.int .i64 2, .string S, .slice pn n.length cn, .slice pg g.length cg, .bool on, .int .i64 kd, .bool pi, .bool od, .slice pc c.length cc] 41)
  obtain ⟨W, hW⟩ : ∃ W, w.alloc (.cells #[.int .i64 2, .string S, .slice pn n.length cn, .slice pg g.length cg, .bool on, .int .i64 kd, .bool pi, .bool od, .slice pc c.length cc] 41) = W := ⟨_, rfl⟩
  rw [hW] at hb hx
  have hvnW := Lib.hid (ri_below hvn hb)
  have hvgW := Lib.hid (ri_below hvg hb)
  have hvcW := Lib.hid (ri_below hvc hb)
  have hTW := Lib.hid (tabs_below15 hT hb)
  have hBn := fun W' (h : RI W' (.slice pn n.length cn) n) => saneC9 _ n W' (by omega) h
  have hCg := fun W' (h : RI W' (.slice pg g.length cg) g) => sane12_any _ g ⟨on, kd, pi, od⟩ W' (by omega) h
  have hCt := fun W' (h : RI W' (.slice pc c.length cc) c) => contains15_any _ c (-1) W' (by omega) h
  unfold sgV at hCg
  dsimp only at hCg
  obtain ⟨R, hR⟩ : ∃ R, Mch.saneM ⟨2, d, n, g, ⟨on, kd, pi, od⟩, c⟩ = R := ⟨_, rfl⟩
  rw [hR]
  unfold Mch.saneM at hR
  dsimp only at hR
  rw [all_contains15] at hR
  obtain ⟨A, hAe⟩ : ∃ A, Dec.saneL d = A := ⟨_, rfl⟩
  obtain ⟨Bn, hBe⟩ : ∃ Bn, Nor.saneB n = Bn := ⟨_, rfl⟩
  obtain ⟨Cg, hCe⟩ : ∃ Cg, Sgm.saneB g ⟨on, kd, pi, od⟩ = Cg := ⟨_, rfl⟩
  obtain ⟨Ct, hCte⟩ : ∃ Ct, c.contains (-1) = Ct := ⟨_, rfl⟩
  have hon : Cg = true → g = [] → on = false := by rintro rfl rfl; exact seg_off15 hCe
  rw [hAe] at hA hR
  rw [hBe] at hBn hR
  rw [hCe] at hCg hR
  rw [hCte] at hCt hR
  have hCt0 : c = [] → Ct = false := by rintro rfl; rw [← hCte]; rfl
  replace hA := Lib.hid hA
  replace hBn := Lib.hid hBn
  replace hCg := Lib.hid hCg
  replace hCt := Lib.hid hCt
  replace hR := Lib.hid hR
  replace hb := Lib.hid hb
  replace hW := Lib.hid hW
  replace hon := Lib.hid hon
  replace hSe := Lib.hid hSe
  replace hSn := Lib.hid hSn
  replace hCt0 := Lib.hid hCt0
  clear hvn hvg hvc hAe hBe hCe hCte hS hT hv0
  go_enter Tryz.func20, Tryz.ntmps20
  go_upto_region 1 with (fail)
  rw [hW.out]
  obtain ⟨c0, c1, c2, c3, c4, c5, c6, c7, c8⟩ := held9 hx.out
  go_upto_region 2 with (fail)
  refine wp_region_lit ?_
  simp only [List.append]
  go_wp2_with fail
  refine (hA.out _ hTW.out).mono ?_
  rintro e w1 ⟨rfl, q1⟩
  have x1 := Lib.hid (blk_below hx.out q1)
  have b1 := Lib.hid (below_on hb.out q1)
  have n1 := Lib.hid (ri_below hvnW.out q1)
  have g1 := Lib.hid (ri_below hvgW.out q1)
  have v1 := Lib.hid (ri_below hvcW.out q1)
  clear c0 c1 c2 c3 c4 c5 c6 c7 c8 q1
  obtain ⟨c0, c1, c2, c3, c4, c5, c6, c7, c8⟩ := held9 x1.out
  rcases A with _ | _
  · skip
    go_wp2_with fail
    go_ret
    exact ⟨ret_bool (by rw [← hR.out]; simp), b1.out⟩
  · skip
    by_cases hd : d = []
    · skip
      have hS0 := hSe.out hd
      subst hS0
      subst hd
      clear hSn
      go_wp2_with fail
      refine (hBn.out _ n1.out).mono ?_
      rintro e w2 ⟨rfl, q2⟩
      have x2 := Lib.hid (blk_below x1.out q2)
      have b2 := Lib.hid (below_on b1.out q2)
      have g2 := Lib.hid (ri_below g1.out q2)
      have v2 := Lib.hid (ri_below v1.out q2)
      clear c0 c1 c2 c3 c4 c5 c6 c7 c8 q2
      obtain ⟨c0, c1, c2, c3, c4, c5, c6, c7, c8⟩ := held9 x2.out
      rcases Bn with _ | _
      · skip
        go_wp2_with fail
        go_ret
        exact ⟨ret_bool (by rw [← hR.out]; simp), b2.out⟩
      · skip
        go_wp2_with fail
        refine (hCg.out _ g2.out).mono ?_
        rintro e w3 ⟨rfl, q3⟩
        have x3 := Lib.hid (blk_below x2.out q3)
        have b3 := Lib.hid (below_on b2.out q3)
        have v3 := Lib.hid (ri_below v2.out q3)
        clear c0 c1 c2 c3 c4 c5 c6 c7 c8 q3
        obtain ⟨c0, c1, c2, c3, c4, c5, c6, c7, c8⟩ := held9 x3.out
        rcases Cg with _ | _
        · skip
          go_wp2_with fail
          go_ret
          exact ⟨ret_bool (by rw [← hR.out]; simp), b3.out⟩
        · skip
          by_cases hg : g = []
          · skip
            obtain rfl := hon.out rfl hg
            subst hg
            by_cases h32 : c.length ≤ 32
            · skip
              have t32 : (c.length : Int) ≤ 32 := by omega
              by_cases hc : c = []
              · skip
                subst hc
                go_wp2_with fail
                refine (hCt.out _ v3.out).mono ?_
                rintro e w4 ⟨rfl, rfl⟩
                go_wp2_with fail
                go_ret
                exact ⟨ret_bool (by rw [← hR.out]; simp), b3.out⟩
              · skip
                have tc : ¬ ((c.length : Int) = 0) := fun e => hc (List.eq_nil_of_length_eq_zero (by omega))
                have uc : ((c.length : Int) == 0) = false := beq_eq_false_iff_ne.2 tc
                clear tc
                go_wp2_with fail
                go_ret
                exact ⟨ret_bool (by rw [← hR.out]; simp [hc]), b3.out⟩
            · skip
              have t32 : ¬ (c.length : Int) ≤ 32 := by omega
              go_wp2_with fail
              go_ret
              exact ⟨ret_bool (by rw [← hR.out]; simp [h32]), b3.out⟩
          · skip
            have tg : ¬ ((g.length : Int) = 0) := fun e => hg (List.eq_nil_of_length_eq_zero (by omega))
            have ug : ((g.length : Int) == 0) = false := beq_eq_false_iff_ne.2 tg
            clear tg
            go_wp2_with fail
            go_ret
            exact ⟨ret_bool (by rw [← hR.out]; simp [hg]), b3.out⟩
    · skip
      have uS : ((S.size : Int) == 0) = false := beq_eq_false_iff_ne.2 (by have := hSn.out hd; omega)
      go_wp2_with fail
      go_ret
      exact ⟨ret_bool (by rw [← hR.out]; simp [hd]), b1.out⟩
set_option maxHeartbeats 12800000 in
set_option maxRecDepth 100000 in
theorem sane15_k3 (v : Value) (m : MS) (w : World) (hk : m.kind = 3) (hT : Tabs w) (hs : Mch.Small m) (hv : RM w v m) : Calls Tryz.prog 20 #[v] w fun e w' => e = .returned (.bool (Mch.saneM m)) ∧ Below w.heap.size w w' := by
  have hv0 := hv
  obtain ⟨vn, vg, vc, rfl, hvn, hvg, hvc⟩ := hv
  obtain ⟨pn, cn, rfl⟩ := ri_form hvn
  obtain ⟨pg, cg, rfl⟩ := ri_form hvg
  obtain ⟨pc, cc, rfl⟩ := ri_form hvc
  obtain ⟨hsd, hsn, hsg, hsc⟩ := hs
  obtain ⟨kind, d, n, g, ⟨on, kd, pi, od⟩, c⟩ := m
  unfold mchV strV
  dsimp only at hvn hvg hvc hsd hsn hsg hsc hk ⊢
  obtain rfl := hk
  have hA := fun W' hT' => Tx.sane_any ⟨d.toArray⟩ W' hT'
  rw [Dec.saneB_eq] at hA
  obtain ⟨S, hS⟩ : ∃ S : ByteArray, (⟨d.toArray⟩ : ByteArray) = S := ⟨_, rfl⟩
  have hSe : d = [] → S = ⟨#[]⟩ := by rintro rfl; exact hS.symm
  have hSn : ¬ d = [] → ¬ S.size = 0 := fun h e => h (by rw [← hS] at e; exact List.length_eq_zero_iff.1 (by simpa [ByteArray.size] using e))
  rw [hS] at hA ⊢
  have hb := below_new w (.cells #[.int .i64 3, .string S, .slice pn n.length cn, .slice pg g.length cg, .bool on, .int .i64 kd, .bool pi, .bool od, .slice pc c.length cc] 41)
  have hx := Lib.hid (blk_new w #[.int .i64 3, .string S, .slice pn n.length cn, .slice pg g.length cg, .bool on, .int .i64 kd, .bool pi, .bool od, .slice pc c.length cc] 41)
  obtain ⟨W, hW⟩ : ∃ W, w.alloc (.cells #[.int .i64 3, .string S, .slice pn n.length cn, .slice pg g.length cg, .bool on, .int .i64 kd, .bool pi, .bool od, .slice pc c.length cc] 41) = W := ⟨_, rfl⟩
  rw [hW] at hb hx
  have hvnW := Lib.hid (ri_below hvn hb)
  have hvgW := Lib.hid (ri_below hvg hb)
  have hvcW := Lib.hid (ri_below hvc hb)
  have hTW := Lib.hid (tabs_below15 hT hb)
  have hBn := fun W' (h : RI W' (.slice pn n.length cn) n) => saneC9 _ n W' (by omega) h
  have hCg := fun W' (h : RI W' (.slice pg g.length cg) g) => sane12_any _ g ⟨on, kd, pi, od⟩ W' (by omega) h
  have hCt := fun W' (h : RI W' (.slice pc c.length cc) c) => contains15_any _ c (-1) W' (by omega) h
  unfold sgV at hCg
  dsimp only at hCg
  obtain ⟨R, hR⟩ : ∃ R, Mch.saneM ⟨3, d, n, g, ⟨on, kd, pi, od⟩, c⟩ = R := ⟨_, rfl⟩
  rw [hR]
  unfold Mch.saneM at hR
  dsimp only at hR
  rw [all_contains15] at hR
  obtain ⟨A, hAe⟩ : ∃ A, Dec.saneL d = A := ⟨_, rfl⟩
  obtain ⟨Bn, hBe⟩ : ∃ Bn, Nor.saneB n = Bn := ⟨_, rfl⟩
  obtain ⟨Cg, hCe⟩ : ∃ Cg, Sgm.saneB g ⟨on, kd, pi, od⟩ = Cg := ⟨_, rfl⟩
  obtain ⟨Ct, hCte⟩ : ∃ Ct, c.contains (-1) = Ct := ⟨_, rfl⟩
  have hon : Cg = true → g = [] → on = false := by rintro rfl rfl; exact seg_off15 hCe
  rw [hAe] at hA hR
  rw [hBe] at hBn hR
  rw [hCe] at hCg hR
  rw [hCte] at hCt hR
  have hCt0 : c = [] → Ct = false := by rintro rfl; rw [← hCte]; rfl
  replace hA := Lib.hid hA
  replace hBn := Lib.hid hBn
  replace hCg := Lib.hid hCg
  replace hCt := Lib.hid hCt
  replace hR := Lib.hid hR
  replace hb := Lib.hid hb
  replace hW := Lib.hid hW
  replace hon := Lib.hid hon
  replace hSe := Lib.hid hSe
  replace hSn := Lib.hid hSn
  replace hCt0 := Lib.hid hCt0
  clear hvn hvg hvc hAe hBe hCe hCte hS hT hv0
  go_enter Tryz.func20, Tryz.ntmps20
  go_upto_region 1 with (fail)
  rw [hW.out]
  obtain ⟨c0, c1, c2, c3, c4, c5, c6, c7, c8⟩ := held9 hx.out
  go_upto_region 2 with (fail)
  refine wp_region_lit ?_
  simp only [List.append]
  go_wp2_with fail
  refine (hA.out _ hTW.out).mono ?_
  rintro e w1 ⟨rfl, q1⟩
  have x1 := Lib.hid (blk_below hx.out q1)
  have b1 := Lib.hid (below_on hb.out q1)
  have n1 := Lib.hid (ri_below hvnW.out q1)
  have g1 := Lib.hid (ri_below hvgW.out q1)
  have v1 := Lib.hid (ri_below hvcW.out q1)
  clear c0 c1 c2 c3 c4 c5 c6 c7 c8 q1
  obtain ⟨c0, c1, c2, c3, c4, c5, c6, c7, c8⟩ := held9 x1.out
  rcases A with _ | _
  · skip
    go_wp2_with fail
    go_ret
    exact ⟨ret_bool (by rw [← hR.out]; simp), b1.out⟩
  · skip
    by_cases hd : d = []
    · skip
      have hS0 := hSe.out hd
      subst hS0
      subst hd
      clear hSn
      go_wp2_with fail
      refine (hBn.out _ n1.out).mono ?_
      rintro e w2 ⟨rfl, q2⟩
      have x2 := Lib.hid (blk_below x1.out q2)
      have b2 := Lib.hid (below_on b1.out q2)
      have g2 := Lib.hid (ri_below g1.out q2)
      have v2 := Lib.hid (ri_below v1.out q2)
      clear c0 c1 c2 c3 c4 c5 c6 c7 c8 q2
      obtain ⟨c0, c1, c2, c3, c4, c5, c6, c7, c8⟩ := held9 x2.out
      rcases Bn with _ | _
      · skip
        go_wp2_with fail
        go_ret
        exact ⟨ret_bool (by rw [← hR.out]; simp), b2.out⟩
      · skip
        by_cases hn : n = []
        · skip
          subst hn
          go_wp2_with fail
          refine (hCg.out _ g2.out).mono ?_
          rintro e w3 ⟨rfl, q3⟩
          have x3 := Lib.hid (blk_below x2.out q3)
          have b3 := Lib.hid (below_on b2.out q3)
          have v3 := Lib.hid (ri_below v2.out q3)
          clear c0 c1 c2 c3 c4 c5 c6 c7 c8 q3
          obtain ⟨c0, c1, c2, c3, c4, c5, c6, c7, c8⟩ := held9 x3.out
          rcases Cg with _ | _
          · skip
            go_wp2_with fail
            go_ret
            exact ⟨ret_bool (by rw [← hR.out]; simp), b3.out⟩
          · skip
            by_cases h32 : c.length ≤ 32
            · skip
              have t32 : (c.length : Int) ≤ 32 := by omega
              by_cases hc : c = []
              · skip
                subst hc
                go_wp2_with fail
                refine (hCt.out _ v3.out).mono ?_
                rintro e w4 ⟨rfl, rfl⟩
                go_wp2_with fail
                go_ret
                exact ⟨ret_bool (by rw [← hR.out]; simp), b3.out⟩
              · skip
                have tc : ¬ ((c.length : Int) = 0) := fun e => hc (List.eq_nil_of_length_eq_zero (by omega))
                have uc : ((c.length : Int) == 0) = false := beq_eq_false_iff_ne.2 tc
                clear tc
                go_wp2_with fail
                go_ret
                exact ⟨ret_bool (by rw [← hR.out]; simp [hc]), b3.out⟩
            · skip
              have t32 : ¬ (c.length : Int) ≤ 32 := by omega
              go_wp2_with fail
              go_ret
              exact ⟨ret_bool (by rw [← hR.out]; simp [h32]), b3.out⟩
        · skip
          have tn : ¬ ((n.length : Int) = 0) := fun e => hn (List.eq_nil_of_length_eq_zero (by omega))
          have un : ((n.length : Int) == 0) = false := beq_eq_false_iff_ne.2 tn
          clear tn
          go_wp2_with fail
          go_ret
          exact ⟨ret_bool (by rw [← hR.out]; simp [hn]), b2.out⟩
    · skip
      have uS : ((S.size : Int) == 0) = false := beq_eq_false_iff_ne.2 (by have := hSn.out hd; omega)
      go_wp2_with fail
      go_ret
      exact ⟨ret_bool (by rw [← hR.out]; simp [hd]), b1.out⟩
set_option maxHeartbeats 12800000 in
set_option maxRecDepth 100000 in
theorem sane15_k4 (v : Value) (m : MS) (w : World) (hk : m.kind = 4) (hT : Tabs w) (hs : Mch.Small m) (hv : RM w v m) : Calls Tryz.prog 20 #[v] w fun e w' => e = .returned (.bool (Mch.saneM m)) ∧ Below w.heap.size w w' := by
  have hv0 := hv
  obtain ⟨vn, vg, vc, rfl, hvn, hvg, hvc⟩ := hv
  obtain ⟨pn, cn, rfl⟩ := ri_form hvn
  obtain ⟨pg, cg, rfl⟩ := ri_form hvg
  obtain ⟨pc, cc, rfl⟩ := ri_form hvc
  obtain ⟨hsd, hsn, hsg, hsc⟩ := hs
  obtain ⟨kind, d, n, g, ⟨on, kd, pi, od⟩, c⟩ := m
  unfold mchV strV
  dsimp only at hvn hvg hvc hsd hsn hsg hsc hk ⊢
  obtain rfl := hk
  have hA := fun W' hT' => Tx.sane_any ⟨d.toArray⟩ W' hT'
  rw [Dec.saneB_eq] at hA
  obtain ⟨S, hS⟩ : ∃ S : ByteArray, (⟨d.toArray⟩ : ByteArray) = S := ⟨_, rfl⟩
  have hSe : d = [] → S = ⟨#[]⟩ := by rintro rfl; exact hS.symm
  have hSn : ¬ d = [] → ¬ S.size = 0 := fun h e => h (by rw [← hS] at e; exact List.length_eq_zero_iff.1 (by simpa [ByteArray.size] using e))
  rw [hS] at hA ⊢
  have hb := below_new w (.cells #[.int .i64 4, .string S, .slice pn n.length cn, .slice pg g.length cg, .bool on, .int .i64 kd, .bool pi, .bool od, .slice pc c.length cc] 41)
  have hx := Lib.hid (blk_new w #[.int .i64 4, .string S, .slice pn n.length cn, .slice pg g.length cg, .bool on, .int .i64 kd, .bool pi, .bool od, .slice pc c.length cc] 41)
  obtain ⟨W, hW⟩ : ∃ W, w.alloc (.cells #[.int .i64 4, .string S, .slice pn n.length cn, .slice pg g.length cg, .bool on, .int .i64 kd, .bool pi, .bool od, .slice pc c.length cc] 41) = W := ⟨_, rfl⟩
  rw [hW] at hb hx
  have hvnW := Lib.hid (ri_below hvn hb)
  have hvgW := Lib.hid (ri_below hvg hb)
  have hvcW := Lib.hid (ri_below hvc hb)
  have hTW := Lib.hid (tabs_below15 hT hb)
  have hBn := fun W' (h : RI W' (.slice pn n.length cn) n) => saneC9 _ n W' (by omega) h
  have hCg := fun W' (h : RI W' (.slice pg g.length cg) g) => sane12_any _ g ⟨on, kd, pi, od⟩ W' (by omega) h
  have hCt := fun W' (h : RI W' (.slice pc c.length cc) c) => contains15_any _ c (-1) W' (by omega) h
  unfold sgV at hCg
  dsimp only at hCg
  obtain ⟨R, hR⟩ : ∃ R, Mch.saneM ⟨4, d, n, g, ⟨on, kd, pi, od⟩, c⟩ = R := ⟨_, rfl⟩
  rw [hR]
  unfold Mch.saneM at hR
  dsimp only at hR
  rw [all_contains15] at hR
  obtain ⟨A, hAe⟩ : ∃ A, Dec.saneL d = A := ⟨_, rfl⟩
  obtain ⟨Bn, hBe⟩ : ∃ Bn, Nor.saneB n = Bn := ⟨_, rfl⟩
  obtain ⟨Cg, hCe⟩ : ∃ Cg, Sgm.saneB g ⟨on, kd, pi, od⟩ = Cg := ⟨_, rfl⟩
  obtain ⟨Ct, hCte⟩ : ∃ Ct, c.contains (-1) = Ct := ⟨_, rfl⟩
  have hon : Cg = true → g = [] → on = false := by rintro rfl rfl; exact seg_off15 hCe
  rw [hAe] at hA hR
  rw [hBe] at hBn hR
  rw [hCe] at hCg hR
  rw [hCte] at hCt hR
  have hCt0 : c = [] → Ct = false := by rintro rfl; rw [← hCte]; rfl
  replace hA := Lib.hid hA
  replace hBn := Lib.hid hBn
  replace hCg := Lib.hid hCg
  replace hCt := Lib.hid hCt
  replace hR := Lib.hid hR
  replace hb := Lib.hid hb
  replace hW := Lib.hid hW
  replace hon := Lib.hid hon
  replace hSe := Lib.hid hSe
  replace hSn := Lib.hid hSn
  replace hCt0 := Lib.hid hCt0
  clear hvn hvg hvc hAe hBe hCe hCte hS hT hv0
  go_enter Tryz.func20, Tryz.ntmps20
  go_upto_region 1 with (fail)
  rw [hW.out]
  obtain ⟨c0, c1, c2, c3, c4, c5, c6, c7, c8⟩ := held9 hx.out
  go_upto_region 2 with (fail)
  refine wp_region_lit ?_
  simp only [List.append]
  go_wp2_with fail
  refine (hA.out _ hTW.out).mono ?_
  rintro e w1 ⟨rfl, q1⟩
  have x1 := Lib.hid (blk_below hx.out q1)
  have b1 := Lib.hid (below_on hb.out q1)
  have n1 := Lib.hid (ri_below hvnW.out q1)
  have g1 := Lib.hid (ri_below hvgW.out q1)
  have v1 := Lib.hid (ri_below hvcW.out q1)
  clear c0 c1 c2 c3 c4 c5 c6 c7 c8 q1
  obtain ⟨c0, c1, c2, c3, c4, c5, c6, c7, c8⟩ := held9 x1.out
  rcases A with _ | _
  · skip
    go_wp2_with fail
    go_ret
    exact ⟨ret_bool (by rw [← hR.out]; simp), b1.out⟩
  · skip
    by_cases hd : d = []
    · skip
      have hS0 := hSe.out hd
      subst hS0
      subst hd
      clear hSn
      go_wp2_with fail
      refine (hBn.out _ n1.out).mono ?_
      rintro e w2 ⟨rfl, q2⟩
      have x2 := Lib.hid (blk_below x1.out q2)
      have b2 := Lib.hid (below_on b1.out q2)
      have g2 := Lib.hid (ri_below g1.out q2)
      have v2 := Lib.hid (ri_below v1.out q2)
      clear c0 c1 c2 c3 c4 c5 c6 c7 c8 q2
      obtain ⟨c0, c1, c2, c3, c4, c5, c6, c7, c8⟩ := held9 x2.out
      rcases Bn with _ | _
      · skip
        go_wp2_with fail
        go_ret
        exact ⟨ret_bool (by rw [← hR.out]; simp), b2.out⟩
      · skip
        by_cases hn : n = []
        · skip
          subst hn
          go_wp2_with fail
          refine (hCg.out _ g2.out).mono ?_
          rintro e w3 ⟨rfl, q3⟩
          have x3 := Lib.hid (blk_below x2.out q3)
          have b3 := Lib.hid (below_on b2.out q3)
          have v3 := Lib.hid (ri_below v2.out q3)
          clear c0 c1 c2 c3 c4 c5 c6 c7 c8 q3
          obtain ⟨c0, c1, c2, c3, c4, c5, c6, c7, c8⟩ := held9 x3.out
          rcases Cg with _ | _
          · skip
            go_wp2_with fail
            go_ret
            exact ⟨ret_bool (by rw [← hR.out]; simp), b3.out⟩
          · skip
            by_cases hg : g = []
            · skip
              obtain rfl := hon.out rfl hg
              subst hg
              by_cases h32 : c.length ≤ 32
              · skip
                have t32 : (c.length : Int) ≤ 32 := by omega
                go_wp2_with fail
                refine (hCt.out _ v3.out).mono ?_
                rintro e w4 ⟨rfl, rfl⟩
                go_wp2_with fail
                go_ret
                exact ⟨ret_bool (by rw [← hR.out]; simp [h32]), b3.out⟩
              · skip
                have t32 : ¬ (c.length : Int) ≤ 32 := by omega
                go_wp2_with fail
                go_ret
                exact ⟨ret_bool (by rw [← hR.out]; simp [h32]), b3.out⟩
            · skip
              have tg : ¬ ((g.length : Int) = 0) := fun e => hg (List.eq_nil_of_length_eq_zero (by omega))
              have ug : ((g.length : Int) == 0) = false := beq_eq_false_iff_ne.2 tg
              clear tg
              go_wp2_with fail
              go_ret
              exact ⟨ret_bool (by rw [← hR.out]; simp [hg]), b3.out⟩
        · skip
          have tn : ¬ ((n.length : Int) = 0) := fun e => hn (List.eq_nil_of_length_eq_zero (by omega))
          have un : ((n.length : Int) == 0) = false := beq_eq_false_iff_ne.2 tn
          clear tn
          go_wp2_with fail
          go_ret
          exact ⟨ret_bool (by rw [← hR.out]; simp [hn]), b2.out⟩
    · skip
      have uS : ((S.size : Int) == 0) = false := beq_eq_false_iff_ne.2 (by have := hSn.out hd; omega)
      go_wp2_with fail
      go_ret
      exact ⟨ret_bool (by rw [← hR.out]; simp [hd]), b1.out⟩
set_option maxHeartbeats 12800000 in
set_option maxRecDepth 100000 in
theorem sane15_out (v : Value) (m : MS) (w : World) (hk : ¬ (0 ≤ m.kind ∧ m.kind ≤ 4)) (hT : Tabs w) (hs : Mch.Small m) (hv : RM w v m) : Calls Tryz.prog 20 #[v] w fun e w' => e = .returned (.bool (Mch.saneM m)) ∧ Below w.heap.size w w' := by
  have hv0 := hv
  obtain ⟨vn, vg, vc, rfl, hvn, hvg, hvc⟩ := hv
  obtain ⟨pn, cn, rfl⟩ := ri_form hvn
  obtain ⟨pg, cg, rfl⟩ := ri_form hvg
  obtain ⟨pc, cc, rfl⟩ := ri_form hvc
  obtain ⟨hsd, hsn, hsg, hsc⟩ := hs
  obtain ⟨kind, d, n, g, ⟨on, kd, pi, od⟩, c⟩ := m
  unfold mchV strV
  dsimp only at hvn hvg hvc hsd hsn hsg hsc hk ⊢
  skip
  have hA := fun W' hT' => Tx.sane_any ⟨d.toArray⟩ W' hT'
  rw [Dec.saneB_eq] at hA
  obtain ⟨S, hS⟩ : ∃ S : ByteArray, (⟨d.toArray⟩ : ByteArray) = S := ⟨_, rfl⟩
  have hSe : d = [] → S = ⟨#[]⟩ := by rintro rfl; exact hS.symm
  have hSn : ¬ d = [] → ¬ S.size = 0 := fun h e => h (by rw [← hS] at e; exact List.length_eq_zero_iff.1 (by simpa [ByteArray.size] using e))
  rw [hS] at hA ⊢
  have hb := below_new w (.cells #[.int .i64 kind, .string S, .slice pn n.length cn, .slice pg g.length cg, .bool on, .int .i64 kd, .bool pi, .bool od, .slice pc c.length cc] 41)
  have hx := Lib.hid (blk_new w #[.int .i64 kind, .string S, .slice pn n.length cn, .slice pg g.length cg, .bool on, .int .i64 kd, .bool pi, .bool od, .slice pc c.length cc] 41)
  obtain ⟨W, hW⟩ : ∃ W, w.alloc (.cells #[.int .i64 kind, .string S, .slice pn n.length cn, .slice pg g.length cg, .bool on, .int .i64 kd, .bool pi, .bool od, .slice pc c.length cc] 41) = W := ⟨_, rfl⟩
  rw [hW] at hb hx
  have hvnW := Lib.hid (ri_below hvn hb)
  have hvgW := Lib.hid (ri_below hvg hb)
  have hvcW := Lib.hid (ri_below hvc hb)
  have hTW := Lib.hid (tabs_below15 hT hb)
  have hBn := fun W' (h : RI W' (.slice pn n.length cn) n) => saneC9 _ n W' (by omega) h
  have hCg := fun W' (h : RI W' (.slice pg g.length cg) g) => sane12_any _ g ⟨on, kd, pi, od⟩ W' (by omega) h
  have hCt := fun W' (h : RI W' (.slice pc c.length cc) c) => contains15_any _ c (-1) W' (by omega) h
  unfold sgV at hCg
  dsimp only at hCg
  obtain ⟨R, hR⟩ : ∃ R, Mch.saneM ⟨kind, d, n, g, ⟨on, kd, pi, od⟩, c⟩ = R := ⟨_, rfl⟩
  rw [hR]
  unfold Mch.saneM at hR
  dsimp only at hR
  rw [all_contains15] at hR
  obtain ⟨A, hAe⟩ : ∃ A, Dec.saneL d = A := ⟨_, rfl⟩
  obtain ⟨Bn, hBe⟩ : ∃ Bn, Nor.saneB n = Bn := ⟨_, rfl⟩
  obtain ⟨Cg, hCe⟩ : ∃ Cg, Sgm.saneB g ⟨on, kd, pi, od⟩ = Cg := ⟨_, rfl⟩
  obtain ⟨Ct, hCte⟩ : ∃ Ct, c.contains (-1) = Ct := ⟨_, rfl⟩
  have hon : Cg = true → g = [] → on = false := by rintro rfl rfl; exact seg_off15 hCe
  rw [hAe] at hA hR
  rw [hBe] at hBn hR
  rw [hCe] at hCg hR
  rw [hCte] at hCt hR
  have hCt0 : c = [] → Ct = false := by rintro rfl; rw [← hCte]; rfl
  replace hA := Lib.hid hA
  replace hBn := Lib.hid hBn
  replace hCg := Lib.hid hCg
  replace hCt := Lib.hid hCt
  replace hR := Lib.hid hR
  replace hb := Lib.hid hb
  replace hW := Lib.hid hW
  replace hon := Lib.hid hon
  replace hSe := Lib.hid hSe
  replace hSn := Lib.hid hSn
  replace hCt0 := Lib.hid hCt0
  clear hvn hvg hvc hAe hBe hCe hCte hS hT hv0
  have t1 : kind < 0 ∨ (¬ kind < 0 ∧ 4 < kind) := by omega
  rcases t1 with t1 | ⟨t1, t2⟩
  · have t3 : ¬ (0 ≤ kind) := by omega
    go_enter Tryz.func20, Tryz.ntmps20
    go_upto_region 1 with (fail)
    rw [hW.out]
    obtain ⟨c0, c1, c2, c3, c4, c5, c6, c7, c8⟩ := held9 hx.out
    go_upto_region 2 with (fail)
    refine wp_region_lit ?_
    simp only [List.append]
    go_wp2_with fail
    go_ret
    exact ⟨ret_bool (by rw [← hR.out]; simp; omega), hb.out⟩
  · have t3 : 0 ≤ kind := by omega
    have t4 : ¬ (kind ≤ 4) := by omega
    go_enter Tryz.func20, Tryz.ntmps20
    go_upto_region 1 with (fail)
    rw [hW.out]
    obtain ⟨c0, c1, c2, c3, c4, c5, c6, c7, c8⟩ := held9 hx.out
    go_upto_region 2 with (fail)
    refine wp_region_lit ?_
    simp only [List.append]
    go_wp2_with fail
    go_ret
    exact ⟨ret_bool (by rw [← hR.out]; simp; omega), hb.out⟩
theorem sane15_any (v : Value) (m : MS) (w : World) (hT : Tabs w) (hs : Mch.Small m) (hv : RM w v m) : Calls Tryz.prog 20 #[v] w fun e w' => e = .returned (.bool (Mch.saneM m)) ∧ Below w.heap.size w w' := by
  by_cases hk : 0 ≤ m.kind ∧ m.kind ≤ 4
  · have hk5 : m.kind = 0 ∨ m.kind = 1 ∨ m.kind = 2 ∨ m.kind = 3 ∨ m.kind = 4 := by omega
    rcases hk5 with h | h | h | h | h
    · exact sane15_k0 v m w h hT hs hv
    · exact sane15_k1 v m w h hT hs hv
    · exact sane15_k2 v m w h hT hs hv
    · exact sane15_k3 v m w h hT hs hv
    · exact sane15_k4 v m w h hT hs hv
  · exact sane15_out v m w hk hT hs hv
theorem saneC15 : SaneC15 := fun v m w hT hs hv => sane15_any v m w hT hs hv
end Go.Proofs.YtiidjkhkcckmkaaGreatDoor
