/- Layer 14: the walk of FlowFrames. -/
import Derived.Test.YtnlnkjaapdefiaaGreatDoorFwQ
import Derived.Test.YtnlnkjaapdefiaaGreatDoorFrRP
import Derived.Test.YtnlnkjaapdefiaaGreatDoorBasP
import Derived.Deep.RegionHeld
import Derived.Deep.LoopGhost
import Derived.OrdersHeld
namespace Go.Proofs.YtnlnkjaapdefiaaGreatDoor
set_option linter.unusedSimpArgs false
set_option linter.unusedVariables false
open Go.RowKit Go.Lib
set_option maxHeartbeats 6400000 in
set_option maxRecDepth 100000 in
theorem flowFrames_walk (hV0 : ValuesC14) (hC0 : ClustersC14) (hF0 : FC14) (hX0 : TextsC14) (hA0 : AllC13) (hD0 : AllC1) (hT0 : TextC1) (hN0 : FormW) (hM0 : MarksW) (vb : Value) (b : List UInt8) (w : World) (hT : Tabs w) (hvb : RBytes w vb b) :
    Calls Tryz.prog 4 #[vb] w fun e w' => e = .returned (.bool true) ∧ Below w.heap.size w w' := by
  obtain ⟨i0, hi, hz0, hz1, hz2⟩ := info_parts info_i
  obtain ⟨pb, cb, rfl⟩ := bytes_form hvb
  have hawake := Lib.hid (fun W h => awake14 hV0 hC0 hF0 W h)
  replace hT := Lib.hid hT
  have hrb := Lib.hid hvb
  clear hvb
  by_cases hl : b.length ≤ 200
  · have hl' : decide (200 < b.length) = false := decide_eq_false (by omega)
    have hl2 : ¬ (200 : Int) < (b.length : Int) := by omega
    have hs := Flw.small_of hl
    have hf := fun W t h => hF0 (.slice pb b.length cb) b W t hs h
    have hx := fun W t h => hX0 (.slice pb b.length cb) b W t hs h
    have hv := fun W t h => hV0 (.slice pb b.length cb) b W t hs h
    have hfl := Flw.frame_short hl
    have hal := fun V W h => hA0 V (Flw.frameI b) W (by omega) h
    rw [Flw.frames_all b] at hal
    have hvl := (Flw.values_few hl).2.2.2
    have hvg := Flw.values_good b
    have hvw := Flw.good_wf hvg
    have hN := fun V W h => hN0 V (Flw.valuesI b) W (by omega) h hvw
    rw [Flw.values_form b, show sameB (Flw.valuesI b) (Flw.valuesI b) = true from decide_eq_true rfl] at hN
    have hM := fun V W h => hM0 V (Flw.valuesI b) W (by omega) h hvw
    have hmk := Flw.values_marks b
    have hcl := Flw.clusters_len b
    have hcg := Flw.clusters_good b
    have hcf := Flw.clusters_flat b
    have hcn := Flw.clusters_few hs.b4
    have htm : Flw.textsI b = (Flw.clustersI b).map Dec.textL := rfl
    obtain ⟨C, hC⟩ : ∃ C, Flw.clustersI b = C := ⟨_, rfl⟩
    rw [hC] at hcl hcg hcf hcn htm
    obtain ⟨F, hF⟩ : ∃ F, Flw.frameI b = F := ⟨_, rfl⟩
    rw [hF] at hf hal hfl
    obtain ⟨TS, hTS⟩ : ∃ TS, Flw.textsI b = TS := ⟨_, rfl⟩
    rw [hTS] at hx hal htm
    obtain ⟨V, hVV⟩ : ∃ V, Flw.valuesI b = V := ⟨_, rfl⟩
    rw [hVV] at hv hvl hN hM hmk hcf
    obtain ⟨K, hK⟩ : ∃ K, Can.marksI V = K := ⟨_, rfl⟩
    rw [hK] at hM hmk
    have hK2 : decide ((K : Int) ≤ 30) = true := decide_eq_true (by omega)
    have hTn : TS.length = C.length := by rw [htm, List.length_map]
    have hFF : ((F.length : Int) != (F.length : Int)) = false := by simp
    unfold ToldB at hf
    unfold ToldS at hx
    unfold Told at hv
    unfold TookAll at hal
    dsimp only at hal
    replace hf := Lib.hid hf
    replace hx := Lib.hid hx
    replace hv := Lib.hid hv
    replace hal := Lib.hid hal
    replace hN := Lib.hid hN
    replace hM := Lib.hid hM
    replace hcl := Lib.hid hcl
    replace hcg := Lib.hid hcg
    replace hcf := Lib.hid hcf
    replace htm := Lib.hid htm
    replace hTn := Lib.hid hTn
    have hvl1 := Lib.hid hvl
    have hdall := Lib.hid hD0
    have htext := Lib.hid hT0
    have hTb : TS.length ≤ 50000 := by have := hTn.out; omega
    clear hC hF hTS hVV hK hV0 hC0 hF0 hX0 hA0 hD0 hT0 hN0 hM0 hs hvg hvw hvl hmk hcn
    go_enter Tryz.func4, Tryz.ntmps4
    go_wp2_with fail
    refine (hawake.out _ hT.out).mono ?_
    rintro e w1 ⟨rfl, q1⟩
    replace hrb := Lib.hid (bytes_below hrb.out q1)
    replace hT := Lib.hid (tabs_next hT.out q1)
    have bq := Lib.hid q1
    clear q1
    go_wp2_with fail
    refine (hf.out _ hT.out hrb.out).mono ?_
    rintro e w2 ⟨vf, rfl, rf, q2⟩
    obtain ⟨pf, cf, rfl⟩ := bytes_form rf
    replace hrb := Lib.hid (bytes_below hrb.out q2)
    replace hT := Lib.hid (tabs_next hT.out q2)
    replace bq := Lib.hid (below_on bq.out q2)
    replace rf := Lib.hid rf
    clear q2
    go_wp2_with fail
    refine (hal.out _ _ rf.out).mono ?_
    rintro e w3 ⟨vt, rfl, rt, q3⟩
    obtain ⟨pt, ct, rfl⟩ := sr_form rt
    replace hrb := Lib.hid (bytes_below hrb.out q3)
    replace hT := Lib.hid (tabs_next hT.out q3)
    replace bq := Lib.hid (below_on bq.out q3)
    replace rt := Lib.hid rt
    clear q3 rf
    go_wp2_with fail
    refine (hx.out _ hT.out hrb.out).mono ?_
    rintro e w4 ⟨vx, rfl, rx, q4⟩
    obtain ⟨px, cx, rfl⟩ := sr_form rx
    replace hrb := Lib.hid (bytes_below hrb.out q4)
    replace hT := Lib.hid (tabs_next hT.out q4)
    replace bq := Lib.hid (below_on bq.out q4)
    replace rt := Lib.hid (sr_below rt.out q4)
    have hsame := Lib.hid (texts_self _ _ TS w4 (by omega) rt.out rx)
    clear q4 rx
    go_wp2_with fail
    refine hsame.out.mono ?_
    rintro e w5 ⟨rfl, q5⟩
    replace hrb := Lib.hid (bytes_below hrb.out q5)
    replace hT := Lib.hid (tabs_next hT.out q5)
    replace bq := Lib.hid (below_on bq.out q5)
    replace rt := Lib.hid (sr_below rt.out q5)
    clear q5 hsame
    go_wp2_with fail
    go_loopg [8, 9] TS.length (fun g vo vi wr => ∃ (i : Nat) (o : List Int), i ≤ TS.length ∧ vi = .int .i64 i ∧ g = TS.length - i ∧ OwnI w5.heap.size vo o wr ∧ Hid ((C.take i).flatten = o) ∧ Below w5.heap.size w5 wr)
    case atStart => exact ⟨0, [], Nat.zero_le _, rfl, rfl, ownI_nil _ _, Lib.hid rfl, Below.refl _ _⟩
    case round =>
      obtain ⟨i, o, hile, rfl, rfl, hown, hflo, hbel⟩ := hrel
      by_cases hlt : i < TS.length
      · have hlt' : (i : Int) < (TS.length : Int) := by omega
        have hltC : i < C.length := by have := hTn.out; omega
        obtain ⟨bt, ot, rfl, hbt, hct⟩ := sr_at rt.out (by omega)
        have k1 := hct i hlt
        have hTi : TS[i] = Dec.textL C[i] := by
          have h := htm.out
          subst h
          simp
        have hmem := List.getElem_mem hltC
        have hcl1 := hcl.out C[i] hmem
        have hrd := Flw.read_text (hcg.out C[i] hmem)
        have htl := Dec.textL_len C[i]
        have hnx : (C.take (i + 1)).flatten = o ++ C[i] := by
          rw [List.take_succ_eq_append_getElem hltC, List.flatten_append, List.flatten_cons, List.flatten_nil, List.append_nil, hflo.out]
        have hol : o.length + C[i].length ≤ 20000 := by
          have h3 : C.flatten = (C.take (i + 1)).flatten ++ (C.drop (i + 1)).flatten := by rw [← List.flatten_append, List.take_append_drop]
          have h4 := congrArg List.length h3
          rw [hcf.out, hnx, List.length_append, List.length_append] at h4
          have := hvl1.out
          omega
        rw [hTi] at k1
        obtain ⟨x, hx⟩ : ∃ x, C[i] = x := ⟨_, rfl⟩
        rw [hx] at k1 hcl1 hrd htl hnx hol
        obtain ⟨Q, hQ⟩ : ∃ Q : ByteArray, (⟨(Dec.textL x).toArray⟩ : ByteArray) = Q := ⟨_, rfl⟩
        have hQl := Lib.hid (show Q.data.toList = Dec.textL x by rw [← hQ])
        have htx := fun V W h => htext.out V x W (by omega) h
        unfold strV at k1 htx
        rw [hQ] at k1 htx
        replace k1 := (hbel.cell (p := ⟨bt, ot + i, none⟩) hbt).trans k1
        have hbtr := Nat.lt_of_lt_of_le hbt hbel.size
        have fq := worldB_reads wr Q
        rw [hQl.out] at fq
        have qf := worldB_below wr Q
        have kq := (qf.cell (p := ⟨bt, ot + i, none⟩) hbtr).trans k1
        have hTf := tabs_next (tabs_next hT.out hbel) qf
        have hda := hdall.out _ _ _ hTf (by omega) fq
        rw [hrd] at hda
        have hbf := hbel.trans (qf.mono hbel.size)
        have hof := ownI_below hown qf
        have hbtf := Nat.lt_of_lt_of_le hbtr qf.size
        have hcv := run_toBytes
        have h1a : decide ((x.length : Int) < 1) = false := decide_eq_false (by omega)
        have h1b : decide ((32 : Int) < (x.length : Int)) = false := decide_eq_false (by omega)
        unfold Told at hda
        replace hda := Lib.hid hda
        replace htx := Lib.hid htx
        replace hnx := Lib.hid hnx
        replace hbf := Lib.hid hbf
        replace hof := Lib.hid hof
        replace kq := Lib.hid kq
        have hbtl := Lib.hid hbtf
        have hll := Lib.hid hol
        have hxl := Lib.hid hcl1
        clear hct hTi hmem hrd htl hx hQ fq qf hTf hbel hown hflo hbtr hbtf hol hcl1 hltC
        go_wp2_with fail
        refine hda.out.mono ?_
        rintro e w6 ⟨va, rfl, ra, q6⟩
        obtain ⟨pa, ca, rfl⟩ := ri_form ra
        have kq6 := (q6.cell (p := ⟨bt, ot + i, none⟩) hbtl.out).trans kq.out
        have hb6 := Lib.hid (hbf.out.trans (q6.mono hbf.out.size))
        have ho6 := Lib.hid (ownI_below hof.out q6)
        have hbt6 := Lib.hid (Nat.lt_of_lt_of_le hbtl.out q6.size)
        replace ra := Lib.hid ra
        clear k1 q6 kq hbf hof hbtl hcv
        go_upto_region 13 with (fail)
        refine wp_region_held_drew (S := fun w' => w'.cell? ⟨bt, ot + i, none⟩ = some (.string Q)) (by kernel_rfl) (kq6) (fun hS => ?_)
        refine' wpAnyH_take (i := 0) (oi := ⟨_, _, _, _, _, _⟩) (v := _) rfl (by kernel_rfl) (by kernel_rfl) (by kernel_rfl) (fun _ _ _ h => h) (Or.inl ⟨by rfl, ?hy0⟩) hS ?rest0
        case hy0 => (intro wz hSw; (try dsimp only at hSw); go_simp; try with_reducible rfl)
        try simp only [Act.put, List.setIfInBounds_toArray, List.set_cons_zero, List.set_cons_succ]
        refine' wpAnyH_take (i := 1) (oi := ⟨_, _, _, _, _, _⟩) (v := _) rfl (by kernel_rfl) (by kernel_rfl) (by kernel_rfl) (fun _ _ _ h => h) (Or.inl ⟨by rfl, ?hy1⟩) hS ?rest1
        case hy1 => (intro wz hSw; (try dsimp only at hSw); go_simp; try with_reducible rfl)
        try simp only [Act.put, List.setIfInBounds_toArray, List.set_cons_zero, List.set_cons_succ]
        refine' wpAnyH_take (i := 2) (oi := ⟨_, _, _, _, _, _⟩) (v := _) rfl (by kernel_rfl) (by kernel_rfl) (by kernel_rfl) (fun _ _ _ h => h) (Or.inl ⟨by rfl, ?hy2⟩) hS ?rest2
        case hy2 => (intro wz hSw; (try dsimp only at hSw); go_simp; try with_reducible rfl)
        try simp only [Act.put, List.setIfInBounds_toArray, List.set_cons_zero, List.set_cons_succ]
        refine' wpAnyH_take (i := 3) (oi := ⟨_, _, _, _, _, _⟩) (v := _) rfl (by kernel_rfl) (by kernel_rfl) (by kernel_rfl) (fun _ _ _ h => h) (Or.inl ⟨by rfl, ?hy3⟩) hS ?rest3
        case hy3 => (intro wz hSw; (try dsimp only at hSw); go_simp; try with_reducible rfl)
        try simp only [Act.put, List.setIfInBounds_toArray, List.set_cons_zero, List.set_cons_succ]
        refine' wpAnyH_take (i := 4) (oi := ⟨_, _, _, _, _, _⟩) (v := _) rfl (by kernel_rfl) (by kernel_rfl) (by kernel_rfl) (fun _ _ _ h => h) (Or.inl ⟨by rfl, ?hy4⟩) hS ?rest4
        case hy4 => (intro wz hSw; (try dsimp only at hSw); go_simp; try with_reducible rfl)
        try simp only [Act.put, List.setIfInBounds_toArray, List.set_cons_zero, List.set_cons_succ]
        refine' wpAnyH_take (i := 5) (oi := ⟨_, _, _, _, _, _⟩) (v := _) rfl (by kernel_rfl) (by kernel_rfl) (by kernel_rfl) (fun _ _ _ h => h) (Or.inl ⟨by rfl, ?hy5⟩) hS ?rest5
        case hy5 => (intro wz hSw; (try dsimp only at hSw); go_simp; try with_reducible rfl)
        try simp only [Act.put, List.setIfInBounds_toArray, List.set_cons_zero, List.set_cons_succ]
        refine' wpAnyH_take (i := 6) (oi := ⟨_, _, _, _, _, _⟩) (v := _) rfl (by kernel_rfl) (by kernel_rfl) (by kernel_rfl) (fun _ _ _ h => h) (Or.inl ⟨by rfl, ?hy6⟩) hS ?rest6
        case hy6 => (intro wz hSw; (try dsimp only at hSw); go_simp; try with_reducible rfl)
        try simp only [Act.put, List.setIfInBounds_toArray, List.set_cons_zero, List.set_cons_succ]
        refine' wpAnyH_take (i := 7) (oi := ⟨_, _, _, _, _, _⟩) (v := _) rfl (by kernel_rfl) (by kernel_rfl) (by kernel_rfl) (fun _ _ _ h => h) (Or.inl ⟨by rfl, ?hy7⟩) hS ?rest7
        case hy7 => (intro wz hSw; (try dsimp only at hSw); go_simp; try with_reducible rfl)
        try simp only [Act.put, List.setIfInBounds_toArray, List.set_cons_zero, List.set_cons_succ]
        refine' wpAnyH_take (i := 8) (oi := ⟨_, _, _, _, _, _⟩) (v := _) rfl (by kernel_rfl) (by kernel_rfl) (by kernel_rfl) (fun _ _ _ h => h) (Or.inl ⟨by rfl, ?hy8⟩) hS ?rest8
        case hy8 => (intro wz hSw; (try dsimp only at hSw); go_simp; try with_reducible rfl)
        try simp only [Act.put, List.setIfInBounds_toArray, List.set_cons_zero, List.set_cons_succ]
        refine' wpAnyH_take (i := 9) (oi := ⟨_, _, _, _, _, _⟩) (v := _) rfl (by kernel_rfl) (by kernel_rfl) (by kernel_rfl) (fun _ _ _ h => h) (Or.inl ⟨by rfl, ?hy9⟩) hS ?rest9
        case hy9 => (intro wz hSw; (try dsimp only at hSw); go_simp; try with_reducible rfl)
        try simp only [Act.put, List.setIfInBounds_toArray, List.set_cons_zero, List.set_cons_succ]
        refine' wpAnyH_take (i := 11) (oi := ⟨_, _, _, _, _, _⟩) (v := _) rfl (by kernel_rfl) (by kernel_rfl) (by kernel_rfl) (fun _ _ _ h => h) (Or.inl ⟨by rfl, ?hy11⟩) hS ?rest11
        case hy11 => (intro wz hSw; (try dsimp only at hSw); go_simp; try with_reducible rfl)
        try simp only [Act.put, List.setIfInBounds_toArray, List.set_cons_zero, List.set_cons_succ]
        refine' wpAnyH_take (i := 12) (oi := ⟨_, _, _, _, _, _⟩) (v := _) rfl (by kernel_rfl) (by kernel_rfl) (by kernel_rfl) (fun _ _ _ h => h) (Or.inl ⟨by rfl, ?hy12⟩) hS ?rest12
        case hy12 => (intro wz hSw; (try dsimp only at hSw); go_simp; try with_reducible rfl)
        try simp only [Act.put, List.setIfInBounds_toArray, List.set_cons_zero, List.set_cons_succ]
        refine' wpAnyH_take (i := 13) (oi := ⟨_, _, _, _, _, _⟩) (v := _) rfl (by kernel_rfl) (by kernel_rfl) (by kernel_rfl) (fun _ _ _ h => h) (Or.inl ⟨by rfl, ?hy13⟩) hS ?rest13
        case hy13 => (intro wz hSw; (try dsimp only at hSw); go_simp; try with_reducible rfl)
        try simp only [Act.put, List.setIfInBounds_toArray, List.set_cons_zero, List.set_cons_succ]
        refine' wpAnyH_take (i := 14) (oi := ⟨_, _, _, _, _, _⟩) (v := _) rfl (by kernel_rfl) (by kernel_rfl) (by kernel_rfl) (fun _ _ _ h => h) (Or.inl ⟨by rfl, ?hy14⟩) hS ?rest14
        case hy14 => (intro wz hSw; (try dsimp only at hSw); go_simp; try with_reducible rfl)
        try simp only [Act.put, List.setIfInBounds_toArray, List.set_cons_zero, List.set_cons_succ]
        refine wpAnyH_ready (rs := [10]) (by kernel_rfl) (by simp) (AllReadyH.cons rfl (fun K hK => ?_) AllReadyH.nil)
        go_simp
        go_at_call 22
        refine (htx.out _ _ (show RI w6.drew _ _ from ra.out)).mono ?_
        rintro e w7 ⟨rfl, q7⟩
        go_wp2_with fail
        refine hK.out _ _ ((q7.cell (p := ⟨bt, ot + i, none⟩) hbt6.out).trans hS) (fun hSn => ?_)
        clear hS
        have hS := hSn
        clear hSn
        clear hK K
        try simp only [Act.put, List.setIfInBounds_toArray, List.set_cons_zero, List.set_cons_succ]
        refine' wpAnyH_take (i := 15) (oi := ⟨_, _, _, _, _, _⟩) (v := _) rfl (by kernel_rfl) (by kernel_rfl) (by kernel_rfl) (fun _ _ _ h => h) (Or.inl ⟨by rfl, ?hy15⟩) hS ?rest15
        case hy15 => (intro wz hSw; (try dsimp only at hSw); go_simp; try with_reducible rfl)
        try simp only [Act.put, List.setIfInBounds_toArray, List.set_cons_zero, List.set_cons_succ]
        refine' wpAnyH_take (i := 16) (oi := ⟨_, _, _, _, _, _⟩) (v := _) rfl (by kernel_rfl) (by kernel_rfl) (by kernel_rfl) (fun _ _ _ h => h) (Or.inl ⟨by rfl, ?hy16⟩) hS ?rest16
        case hy16 => (intro wz hSw; (try dsimp only at hSw); go_simp; try with_reducible rfl)
        try simp only [Act.put, List.setIfInBounds_toArray, List.set_cons_zero, List.set_cons_succ]
        refine wpAnyH_done (by kernel_rfl) ?_ _
        have hb7 := Lib.hid (hb6.out.drew.trans (q7.mono hb6.out.size))
        have ho7 := Lib.hid (ownI_below (w := w6.drew) ho6.out q7)
        have s7 := Lib.hid (ri_src (ri_below (w := w6.drew) ra.out q7))
        clear hS q7 hb6 ho6 kq6 ra
        go_simp
        have h8a := hll.out
        go_wp2_with (at_builtin; refine wpList_append_src rfl _ _ 25 rfl w5.heap.size 3 i0 (.int .i64 0) 8 Tryz.underlying25 hi hz0 hz1 hz2 rfl _ _ _ rfl ho7.out _ _ rfl s7.out (oneCellI _) (by simp only [List.length_map, List.length_append, List.length_take, List.length_drop, List.length_cons, List.length_nil, List.length_singleton]; unfold maxLen; omega) (by simp only [List.length_map, List.length_append, List.length_take, List.length_drop, List.length_cons, List.length_nil, List.length_singleton]; omega) hb7.out.size ?_; intro v8 w8 ho8 hg8; have o8 := Lib.hid (ownI_of_row (l := o ++ x) ho8 (by (try simp); try omega) (by (try simp); try omega)); have b8 := Lib.hid (below_row hb7.out hg8 hb7.out.size ho7.out (Nat.le_refl _)); clear ho8 hg8)
        go_roundg (TS.length - (i + 1))
        case measure => omega
        case rel => exact ⟨i + 1, o ++ x, by omega, by go_num, rfl, o8.out, hnx, b8.out⟩
      · obtain rfl : i = TS.length := by omega
        have hlt' : decide ((TS.length : Int) < (TS.length : Int)) = false := by simp
        have hfl2 := hflo.out
        rw [hTn.out, List.take_length, hcf.out] at hfl2
        subst hfl2
        have ro := ri_of_own hown
        obtain ⟨po, co, rfl⟩ := ri_form ro
        replace hrb := Lib.hid (bytes_below hrb.out hbel)
        replace hT := Lib.hid (tabs_next hT.out hbel)
        replace bq := Lib.hid (below_on bq.out hbel)
        replace ro := Lib.hid ro
        clear hown hbel hflo rt
        go_wp2_with fail
        refine (hv.out _ hT.out hrb.out).mono ?_
        rintro e w6 ⟨v6, rfl, r6, q6⟩
        obtain ⟨p6, c6, rfl⟩ := ri_form r6
        replace ro := Lib.hid (ri_below ro.out q6)
        replace bq := Lib.hid (below_on bq.out q6)
        have hsm := Lib.hid (same_self _ _ V w6 (by have := hvl1.out; omega) ro.out r6)
        clear q6 r6
        go_wp2_with fail
        refine hsm.out.mono ?_
        rintro e w7 ⟨rfl, q7⟩
        replace ro := Lib.hid (ri_below ro.out q7)
        replace bq := Lib.hid (below_on bq.out q7)
        clear q7 hsm
        go_wp2_with fail
        refine (hN.out _ _ ro.out).mono ?_
        rintro e w8 ⟨rfl, q8⟩
        replace ro := Lib.hid (ri_below ro.out q8)
        replace bq := Lib.hid (below_on bq.out q8)
        clear q8
        go_wp2_with fail
        refine (hM.out _ _ ro.out).mono ?_
        rintro e w9 ⟨rfl, q9⟩
        replace bq := Lib.hid (below_on bq.out q9)
        clear q9 ro
        go_wp2_with fail
        go_ret
        exact ⟨rfl, bq.out⟩
  · have hl' : decide (200 < b.length) = true := decide_eq_true (by omega)
    have hl2 : (200 : Int) < (b.length : Int) := by omega
    clear hV0 hC0 hF0 hX0 hA0 hD0 hT0 hN0 hM0
    go_enter Tryz.func4, Tryz.ntmps4
    go_wp2_with fail
    refine (hawake.out _ hT.out).mono ?_
    rintro e w1 ⟨rfl, q1⟩
    go_wp2_with fail
    go_ret
    exact ⟨rfl, q1⟩
end Go.Proofs.YtnlnkjaapdefiaaGreatDoor
