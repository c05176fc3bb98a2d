/- Layer 14: the walk of FlowForms. -/
import Derived.Test.YtnlnkjaapdefiaaGreatDoorFwQ
import Derived.Test.YtnlnkjaapdefiaaGreatDoorBasP
import Derived.Deep.LoopGhost
namespace Go.Proofs.YtnlnkjaapdefiaaGreatDoor
set_option linter.unusedSimpArgs false
set_option linter.unusedVariables false
open Go.RowKit Go.Lib
set_option maxHeartbeats 6400000 in
set_option maxRecDepth 100000 in
theorem flowForms_walk (hV0 : ValuesC14) (hC0 : ClustersC14) (hF0 : FC14) (hG0 : GoodC1) (hX0 : TextC1) (hc0 : NfkcC) (hd0 : NfkdC) (hm0 : MadeC) (v : Value) (l : List Int) (w : World) (hT : Tabs w) (hv : RI w v l ∧ WfI l) :
    Calls Tryz.prog 5 #[v] w fun e w' => e = .returned (.bool true) ∧ Below w.heap.size w w' := by
  obtain ⟨i0, hi, hz0, hz1, hz2⟩ := info_parts info_i
  obtain ⟨hri, hwl⟩ := hv
  obtain ⟨p, cap, rfl⟩ := ri_form hri
  have hawake := Lib.hid (fun W h => awake14 hV0 hC0 hF0 W h)
  replace hT := Lib.hid hT
  replace hri := Lib.hid hri
  by_cases hl : l.length ≤ 60
  · have hl' : decide (60 < l.length) = false := decide_eq_false (by omega)
    have hl2 : ¬ (60 : Int) < (l.length : Int) := by omega
    have hgg := Flw.kept_good l
    have hgl : (l.filter Dec.goodB).length ≤ 60 := Nat.le_trans (List.length_filter_le _ _) hl
    obtain ⟨g, hg⟩ : ∃ g, l.filter Dec.goodB = g := ⟨_, rfl⟩
    rw [hg] at hgg hgl
    have hgw := Flw.good_wf hgg
    obtain ⟨n1, n2, n3⟩ := Flw.form_lens hgl
    have g1 := Flw.nfkc_good hgg
    have g2 := Flw.nfkd_good hgg
    have g3 := Flw.made_good hgg
    have e1 := Nfk.nfkc_nfkc g
    have e2 := Nfk.nfkc_nfkd g
    have e3 := Nfk.nfkc_made g
    have s0 := Flw.small_form hgg hgg hgl (by omega) rfl
    have s1 := Flw.small_form hgg g1 hgl n1 e1
    have s2 := Flw.small_form hgg g2 hgl n2 e2
    have s3 := Flw.small_form hgg g3 hgl n3 e3
    have hf0 := fun V W t h => hF0 V (Dec.textL g) W t s0 h
    have hf1 := fun V W t h => hF0 V (Dec.textL (Nfk.nfkcI g)) W t s1 h
    have hf2 := fun V W t h => hF0 V (Dec.textL (Nfk.nfkdI g)) W t s2 h
    have hf3 := fun V W t h => hF0 V (Dec.textL (Nfk.madeI g)) W t s3 h
    rw [Flw.forms hgg g1 e1] at hf1
    rw [Flw.forms hgg g2 e2] at hf2
    rw [Flw.forms hgg g3 e3] at hf3
    obtain ⟨F, hF⟩ : ∃ F, Flw.frameI (Dec.textL g) = F := ⟨_, rfl⟩
    rw [hF] at hf0 hf1 hf2 hf3
    obtain ⟨Z, hZ⟩ : ∃ Z : ByteArray, (⟨F.toArray⟩ : ByteArray) = Z := ⟨_, rfl⟩
    have hkc := fun V W h => hc0 V g W (by omega) h hgw
    have hkd := fun V W h => hd0 V g W (by omega) h hgw
    have hkm := fun V W h => hm0 V g W (by omega) h hgw
    have hx0 := fun V W h => hX0 V g W (by omega) h
    have hx1 := fun V W h => hX0 V (Nfk.nfkcI g) W (by omega) h
    have hx2 := fun V W h => hX0 V (Nfk.nfkdI g) W (by omega) h
    have hx3 := fun V W h => hX0 V (Nfk.madeI g) W (by omega) h
    obtain ⟨X1, hX1⟩ : ∃ X, Nfk.nfkcI g = X := ⟨_, rfl⟩
    rw [hX1] at hkc hx1 hf1
    obtain ⟨X2, hX2⟩ : ∃ X, Nfk.nfkdI g = X := ⟨_, rfl⟩
    rw [hX2] at hkd hx2 hf2
    obtain ⟨X3, hX3⟩ : ∃ X, Nfk.madeI g = X := ⟨_, rfl⟩
    rw [hX3] at hkm hx3 hf3
    obtain ⟨S0, hS0⟩ : ∃ S : ByteArray, (⟨(Dec.textL g).toArray⟩ : ByteArray) = S := ⟨_, rfl⟩
    obtain ⟨S1, hS1⟩ : ∃ S : ByteArray, (⟨(Dec.textL X1).toArray⟩ : ByteArray) = S := ⟨_, rfl⟩
    obtain ⟨S2, hS2⟩ : ∃ S : ByteArray, (⟨(Dec.textL X2).toArray⟩ : ByteArray) = S := ⟨_, rfl⟩
    obtain ⟨S3, hS3⟩ : ∃ S : ByteArray, (⟨(Dec.textL X3).toArray⟩ : ByteArray) = S := ⟨_, rfl⟩
    have hy0 := Lib.hid (show S0.data.toList = Dec.textL g by rw [← hS0])
    have hy1 := Lib.hid (show S1.data.toList = Dec.textL X1 by rw [← hS1])
    have hy2 := Lib.hid (show S2.data.toList = Dec.textL X2 by rw [← hS2])
    have hy3 := Lib.hid (show S3.data.toList = Dec.textL X3 by rw [← hS3])
    unfold strV at hx0 hx1 hx2 hx3
    rw [hS0] at hx0
    rw [hS1] at hx1
    rw [hS2] at hx2
    rw [hS3] at hx3
    unfold Told at hkc hkd hkm
    unfold ToldB at hf0 hf1 hf2 hf3
    replace hf0 := Lib.hid hf0
    replace hf1 := Lib.hid hf1
    replace hf2 := Lib.hid hf2
    replace hf3 := Lib.hid hf3
    replace hx0 := Lib.hid hx0
    replace hx1 := Lib.hid hx1
    replace hx2 := Lib.hid hx2
    replace hx3 := Lib.hid hx3
    replace hkc := Lib.hid hkc
    replace hkd := Lib.hid hkd
    replace hkm := Lib.hid hkm
    replace hZ := Lib.hid hZ
    replace hg := Lib.hid hg
    have hgood := Lib.hid hG0
    clear hX1 hX2 hX3 hS0 hS1 hS2 hS3 hF hV0 hC0 hF0 hG0 hX0 hc0 hd0 hm0 s0 s1 s2 s3 e1 e2 e3 g1 g2 g3 n1 n2 n3 hgg hgw hwl
    go_enter Tryz.func5, Tryz.ntmps5
    go_wp2_with fail
    refine (hawake.out _ hT.out).mono ?_
    rintro e w1 ⟨rfl, q1⟩
    replace hri := Lib.hid (ri_below hri.out q1)
    replace hT := Lib.hid (tabs_next hT.out q1)
    have hb1 := Lib.hid q1
    clear q1
    go_wp2_with fail
    go_loopg [4, 5] l.length (fun m vo vi wr => ∃ (i : Nat) (o : List Int), i ≤ l.length ∧ vi = .int .i64 i ∧ m = l.length - i ∧ OwnI w1.heap.size vo o wr ∧ Hid ((l.take i).filter Dec.goodB = o) ∧ o.length ≤ i ∧ Below w1.heap.size w1 wr)
    case atStart => exact ⟨0, [], Nat.zero_le _, rfl, rfl, ownI_nil _ _, Lib.hid rfl, by simp, Below.refl _ _⟩
    case round =>
      obtain ⟨i, o, hile, rfl, rfl, hown, hfl, hol, hbel⟩ := hrel
      by_cases hlt : i < l.length
      · have hlt' : (i : Int) < (l.length : Int) := by omega
        obtain ⟨b, off, rfl, hb, hcell⟩ := ri_at hri.out (by omega)
        have hc0 := hcell i hlt
        have hs : (l.take (i + 1)).filter Dec.goodB = o ++ (if Dec.goodB l[i] = true then [l[i]] else []) := by
          rw [List.take_succ_eq_append_getElem hlt, List.filter_append, hfl.out]
          congr 1
          cases h : Dec.goodB l[i] <;> simp [h]
        obtain ⟨x, hx⟩ : ∃ x, l[i] = x := ⟨_, rfl⟩
        rw [hx] at hc0 hs
        have hc : wr.cell? ⟨b, off + i, none⟩ = some (.int .i64 x) := (hbel.cell hb).trans hc0
        have hdx := hgood.out x wr
        replace hc0 := Lib.hid hc0
        cases hdb : Dec.goodB x with
        | false =>
          rw [hdb] at hdx hs
          simp only [Bool.false_eq_true, if_false, List.append_nil] at hs
          replace hdx := Lib.hid hdx
          replace hs := Lib.hid hs
          replace hown := Lib.hid hown
          replace hbel := Lib.hid hbel
          clear hcell hx hdb hfl
          go_wp2_with fail
          refine hdx.out.mono ?_
          rintro e w2 ⟨rfl, rfl⟩
          go_wp2_with fail
          go_roundg (l.length - (i + 1))
          case measure => omega
          case rel => exact ⟨i + 1, o, by omega, by go_num, rfl, hown.out, hs, by omega, hbel.out⟩
        | true =>
          rw [hdb] at hdx hs
          simp only [if_true] at hs
          replace hdx := Lib.hid hdx
          replace hs := Lib.hid hs
          have o2 := Lib.hid (ownI_alloc hown (.cells #[.int .i64 x] 3))
          have b2 := Lib.hid (hbel.alloc hbel.size (.cells #[.int .i64 x] 3))
          have s2 := Lib.hid (ri_src (ri_of_own (ownI_lit w1.heap.size wr [x] #[.int .i64 x] wr.heap.size 1 rfl hbel.size rfl rfl (by unfold maxLen; omega))))
          clear hcell hx hdb hfl hown hbel
          go_wp2_with fail
          refine hdx.out.mono ?_
          rintro e w2 ⟨rfl, rfl⟩
          go_wp2_with (at_builtin; refine wpList_append_src rfl _ _ 25 rfl w1.heap.size 3 i0 (.int .i64 0) 8 Tryz.underlying25 hi hz0 hz1 hz2 rfl _ _ _ rfl o2.out _ _ rfl s2.out (oneCellI _) (by simp only [List.length_map, List.length_append, List.length_take, List.length_drop, List.length_cons, List.length_nil, List.length_singleton]; unfold maxLen; omega) (by simp only [List.length_map, List.length_append, List.length_take, List.length_drop, List.length_cons, List.length_nil, List.length_singleton]; omega) b2.out.size ?_; intro v5 w5 ho5 hg5; have o5 := Lib.hid (ownI_of_row (l := o ++ [x]) ho5 (by (try simp); try omega) (by (try simp); try omega)); have b5 := Lib.hid (below_row b2.out hg5 b2.out.size o2.out (Nat.le_refl _)); clear ho5 hg5)
          go_roundg (l.length - (i + 1))
          case measure => omega
          case rel => exact ⟨i + 1, o ++ [x], by omega, by go_num, rfl, o5.out, hs, by simp; omega, b5.out⟩
      · obtain rfl : i = l.length := by omega
        have hlt' : decide ((l.length : Int) < (l.length : Int)) = false := by simp
        have hfl2 := hfl.out
        rw [List.take_length, hg.out] at hfl2
        subst hfl2
        have rg := ri_of_own hown
        obtain ⟨pg, cg, rfl⟩ := ri_form rg
        replace rg := Lib.hid rg
        replace hT := Lib.hid (tabs_next hT.out hbel)
        have bq := Lib.hid (below_on hb1.out hbel)
        have hcv := run_toBytes
        clear hown hbel hfl hri hgood
        go_wp2_with fail
        refine (hx0.out _ _ rg.out).mono ?_
        rintro e wb0 ⟨rfl, qb0⟩
        have fb0 := worldB_reads wb0 S0
        have qf0 := worldB_below wb0 S0
        rw [hy0.out] at fb0
        replace rg := Lib.hid (ri_below (ri_below rg.out qb0) qf0)
        replace hT := Lib.hid (tabs_next (tabs_next hT.out qb0) qf0)
        replace bq := Lib.hid (below_on (below_on bq.out qb0) qf0)
        replace fb0 := Lib.hid fb0
        clear qb0 qf0
        go_wp2_with fail
        refine (hf0.out _ _ hT.out fb0.out).mono ?_
        rintro e wc0 ⟨vc0, rfl, rc0, qc0⟩
        have cv0 := run_toStr _ _ wc0 rc0
        rw [hZ.out] at cv0
        replace rg := Lib.hid (ri_below rg.out qc0)
        replace hT := Lib.hid (tabs_next hT.out qc0)
        replace bq := Lib.hid (below_on bq.out qc0)
        clear rc0 qc0 fb0
        go_wp2_with fail
        refine (hkc.out _ _ rg.out).mono ?_
        rintro e wa1 ⟨va1, rfl, ra1, qa1⟩
        obtain ⟨pa1, ca1, rfl⟩ := ri_form ra1
        replace ra1 := Lib.hid ra1
        replace rg := Lib.hid (ri_below rg.out qa1)
        replace hT := Lib.hid (tabs_next hT.out qa1)
        replace bq := Lib.hid (below_on bq.out qa1)
        clear qa1
        go_wp2_with fail
        refine (hx1.out _ _ ra1.out).mono ?_
        rintro e wb1 ⟨rfl, qb1⟩
        have fb1 := worldB_reads wb1 S1
        have qf1 := worldB_below wb1 S1
        rw [hy1.out] at fb1
        replace rg := Lib.hid (ri_below (ri_below rg.out qb1) qf1)
        replace hT := Lib.hid (tabs_next (tabs_next hT.out qb1) qf1)
        replace bq := Lib.hid (below_on (below_on bq.out qb1) qf1)
        replace fb1 := Lib.hid fb1
        clear qb1 qf1
        clear ra1
        go_wp2_with fail
        refine (hf1.out _ _ hT.out fb1.out).mono ?_
        rintro e wc1 ⟨vc1, rfl, rc1, qc1⟩
        have cv1 := run_toStr _ _ wc1 rc1
        rw [hZ.out] at cv1
        replace rg := Lib.hid (ri_below rg.out qc1)
        replace hT := Lib.hid (tabs_next hT.out qc1)
        replace bq := Lib.hid (below_on bq.out qc1)
        clear rc1 qc1 fb1
        go_wp2_with fail
        refine (hkd.out _ _ rg.out).mono ?_
        rintro e wa2 ⟨va2, rfl, ra2, qa2⟩
        obtain ⟨pa2, ca2, rfl⟩ := ri_form ra2
        replace ra2 := Lib.hid ra2
        replace rg := Lib.hid (ri_below rg.out qa2)
        replace hT := Lib.hid (tabs_next hT.out qa2)
        replace bq := Lib.hid (below_on bq.out qa2)
        clear qa2
        go_wp2_with fail
        refine (hx2.out _ _ ra2.out).mono ?_
        rintro e wb2 ⟨rfl, qb2⟩
        have fb2 := worldB_reads wb2 S2
        have qf2 := worldB_below wb2 S2
        rw [hy2.out] at fb2
        replace rg := Lib.hid (ri_below (ri_below rg.out qb2) qf2)
        replace hT := Lib.hid (tabs_next (tabs_next hT.out qb2) qf2)
        replace bq := Lib.hid (below_on (below_on bq.out qb2) qf2)
        replace fb2 := Lib.hid fb2
        clear qb2 qf2
        clear ra2
        go_wp2_with fail
        refine (hf2.out _ _ hT.out fb2.out).mono ?_
        rintro e wc2 ⟨vc2, rfl, rc2, qc2⟩
        have cv2 := run_toStr _ _ wc2 rc2
        rw [hZ.out] at cv2
        replace rg := Lib.hid (ri_below rg.out qc2)
        replace hT := Lib.hid (tabs_next hT.out qc2)
        replace bq := Lib.hid (below_on bq.out qc2)
        clear rc2 qc2 fb2
        go_wp2_with fail
        refine (hkm.out _ _ rg.out).mono ?_
        rintro e wa3 ⟨va3, rfl, ra3, qa3⟩
        obtain ⟨pa3, ca3, rfl⟩ := ri_form ra3
        replace ra3 := Lib.hid ra3
        replace rg := Lib.hid (ri_below rg.out qa3)
        replace hT := Lib.hid (tabs_next hT.out qa3)
        replace bq := Lib.hid (below_on bq.out qa3)
        clear qa3
        go_wp2_with fail
        refine (hx3.out _ _ ra3.out).mono ?_
        rintro e wb3 ⟨rfl, qb3⟩
        have fb3 := worldB_reads wb3 S3
        have qf3 := worldB_below wb3 S3
        rw [hy3.out] at fb3
        replace rg := Lib.hid (ri_below (ri_below rg.out qb3) qf3)
        replace hT := Lib.hid (tabs_next (tabs_next hT.out qb3) qf3)
        replace bq := Lib.hid (below_on (below_on bq.out qb3) qf3)
        replace fb3 := Lib.hid fb3
        clear qb3 qf3
        clear ra3
        go_wp2_with fail
        refine (hf3.out _ _ hT.out fb3.out).mono ?_
        rintro e wc3 ⟨vc3, rfl, rc3, qc3⟩
        have cv3 := run_toStr _ _ wc3 rc3
        rw [hZ.out] at cv3
        replace rg := Lib.hid (ri_below rg.out qc3)
        replace hT := Lib.hid (tabs_next hT.out qc3)
        replace bq := Lib.hid (below_on bq.out qc3)
        clear rc3 qc3 fb3
        go_wp2_with fail
        go_ret
        exact ⟨rfl, bq.out⟩
  · have hl' : decide (60 < l.length) = true := decide_eq_true (by omega)
    have hl2 : (60 : Int) < (l.length : Int) := by omega
    clear hV0 hC0 hF0 hG0 hX0 hc0 hd0 hm0
    go_enter Tryz.func5, Tryz.ntmps5
    go_wp2_with fail
    refine (hawake.out _ hT.out).mono ?_
    rintro e w1 ⟨rfl, q1⟩
    go_wp2_with fail
    go_ret
    exact ⟨rfl, q1⟩
end Go.Proofs.YtnlnkjaapdefiaaGreatDoor
