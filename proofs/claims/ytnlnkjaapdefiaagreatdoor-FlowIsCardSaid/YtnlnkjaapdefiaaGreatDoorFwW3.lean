/- Layer 14: the walk of FlowIs. -/
import Derived.Test.YtnlnkjaapdefiaaGreatDoorFwW0
import Derived.Test.YtnlnkjaapdefiaaGreatDoorFwR1
import Derived.Test.YtnlnkjaapdefiaaGreatDoorSgRQ
import Derived.Test.YtnlnkjaapdefiaaGreatDoorBasP
import Derived.Deep.RegionHeld
import Derived.OrdersHeld
namespace Go.Proofs.YtnlnkjaapdefiaaGreatDoor
set_option linter.unusedSimpArgs false
set_option linter.unusedVariables false
open Go.RowKit Go.Lib
theorem bytes_drew14 {w : World} {v : Value} {l : List UInt8} (h : RBytes w v l) : RBytes w.drew v l := h
theorem tabs_drew14 {w : World} (h : Tabs w) : Tabs w.drew := tabs_next h (Below.refl _ _).drew
set_option maxHeartbeats 12800000 in
set_option maxRecDepth 100000 in
theorem flowIs_walk (hV0 : ValuesC14) (hC0 : ClustersC14) (hF0 : FC14) (hX0 : TextsC14) (vb : Value) (b : List UInt8) (w : World) (hT : Tabs w) (hvb : RBytes w vb b) :
    Calls Tryz.prog 3 #[vb] w fun e w' => e = .returned (.bool true) ∧ Below w.heap.size w w' := by
  obtain ⟨pb, cb, rfl⟩ := bytes_form hvb
  have hawake := Lib.hid (fun W h => awake14 hV0 hC0 hF0 W h)
  replace hT := Lib.hid hT
  have hrb := Lib.hid hvb
  clear hvb
  by_cases hl : b.length ≤ 200
  · have hl' : decide (200 < b.length) = false := decide_eq_false (by omega)
    have hl2 : ¬ (200 : Int) < (b.length : Int) := by omega
    have hs := Flw.small_of hl
    have hV := fun W t h => hV0 (.slice pb b.length cb) b W t hs h
    have rV := fun W h => rvalues14_any (.slice pb b.length cb) b W hs (by omega) h
    have hC := fun W t h => hC0 (.slice pb b.length cb) b W t hs h
    have rC := fun W h => rclusters14_any (.slice pb b.length cb) b W hs (by omega) h
    have hF := fun W t h => hF0 (.slice pb b.length cb) b W t hs h
    have rF := fun W h => rf14_any (.slice pb b.length cb) b W hs (by omega) h
    have hX := fun W t h => hX0 (.slice pb b.length cb) b W t hs h
    have rX := fun W h => rtexts14_any (.slice pb b.length cb) b W hs (by omega) h
    have hVl : (Flw.valuesI b).length ≤ 100000 := by have := hs.b4; omega
    have hCn : (Flw.clustersI b).length ≤ 100000 := by have := Flw.clusters_few hs.b4; omega
    have hCl : ∀ c ∈ Flw.clustersI b, c.length ≤ 100000 := fun c hc => by have := (Flw.clusters_len b c hc).2; omega
    have hXn : (Flw.textsI b).length ≤ 1000000 := by unfold Flw.textsI; rw [List.length_map]; omega
    obtain ⟨V, hVV⟩ : ∃ V, Flw.valuesI b = V := ⟨_, rfl⟩
    rw [hVV] at hV rV hVl
    obtain ⟨C, hCC⟩ : ∃ C, Flw.clustersI b = C := ⟨_, rfl⟩
    rw [hCC] at hC rC hCn hCl
    obtain ⟨F, hFF⟩ : ∃ F, Flw.frameI b = F := ⟨_, rfl⟩
    rw [hFF] at hF rF
    obtain ⟨X, hXX⟩ : ∃ X, Flw.textsI b = X := ⟨_, rfl⟩
    rw [hXX] at hX rX hXn
    unfold Told at hV rV
    unfold ToldR at hC rC
    unfold ToldB at hF rF
    unfold ToldS at hX rX
    replace hV := Lib.hid hV
    replace rV := Lib.hid rV
    replace hC := Lib.hid hC
    replace rC := Lib.hid rC
    replace hF := Lib.hid hF
    replace rF := Lib.hid rF
    replace hX := Lib.hid hX
    replace rX := Lib.hid rX
    replace hVl := Lib.hid hVl
    replace hCn := Lib.hid hCn
    replace hCl := Lib.hid hCl
    replace hXn := Lib.hid hXn
    clear hVV hCC hFF hXX hV0 hC0 hF0 hX0 hs
    go_enter Tryz.func3, Tryz.ntmps3
    go_wp2_with fail
    refine (hawake.out _ hT.out).mono ?_
    rintro e w1 ⟨rfl, q1⟩
    replace hrb := Lib.hid (bytes_below hrb.out q1)
    replace hT := Lib.hid (tabs_next hT.out q1)
    have bq := Lib.hid q1
    clear q1
    go_upto_region 4 with (fail)
    replace hrb := Lib.hid (bytes_drew14 hrb.out)
    replace hT := Lib.hid (tabs_drew14 hT.out)
    replace bq := Lib.hid bq.out.drew
    refine wp_region_held_drew (S := fun _ => True) (by kernel_rfl) (trivial) (fun hS => ?_)
    refine' wpAnyH_take (i := 0) (oi := ⟨_, _, _, _, _, _⟩) (v := _) rfl (by kernel_rfl) (by kernel_rfl) (by kernel_rfl) (fun _ _ _ h => h) (Or.inl ⟨by rfl, ?hy0⟩) hS ?rest0
    case hy0 => (intro wz hSw; (try dsimp only at hSw); go_simp; try with_reducible rfl)
    try simp only [Act.put, List.setIfInBounds_toArray, List.set_cons_zero, List.set_cons_succ]
    refine' wpAnyH_take (i := 1) (oi := ⟨_, _, _, _, _, _⟩) (v := _) rfl (by kernel_rfl) (by kernel_rfl) (by kernel_rfl) (fun _ _ _ h => h) (Or.inl ⟨by rfl, ?hy1⟩) hS ?rest1
    case hy1 => (intro wz hSw; (try dsimp only at hSw); go_simp; try with_reducible rfl)
    try simp only [Act.put, List.setIfInBounds_toArray, List.set_cons_zero, List.set_cons_succ]
    refine' wpAnyH_take (i := 2) (oi := ⟨_, _, _, _, _, _⟩) (v := _) rfl (by kernel_rfl) (by kernel_rfl) (by kernel_rfl) (fun _ _ _ h => h) (Or.inl ⟨by rfl, ?hy2⟩) hS ?rest2
    case hy2 => (intro wz hSw; (try dsimp only at hSw); go_simp; try with_reducible rfl)
    try simp only [Act.put, List.setIfInBounds_toArray, List.set_cons_zero, List.set_cons_succ]
    refine' wpAnyH_take (i := 4) (oi := ⟨_, _, _, _, _, _⟩) (v := _) rfl (by kernel_rfl) (by kernel_rfl) (by kernel_rfl) (fun _ _ _ h => h) (Or.inl ⟨by rfl, ?hy4⟩) hS ?rest4
    case hy4 => (intro wz hSw; (try dsimp only at hSw); go_simp; try with_reducible rfl)
    try simp only [Act.put, List.setIfInBounds_toArray, List.set_cons_zero, List.set_cons_succ]
    refine wpAnyH_ready (rs := [3]) (by kernel_rfl) (by simp) (AllReadyH.cons rfl (fun K hK => ?_) AllReadyH.nil)
    go_simp
    go_at_call 10
    refine (hV.out _ hT.out hrb.out).mono ?_
    rintro e w_3 ⟨v_a1, rfl, a1, q_3⟩
    obtain ⟨p_a1, c_a1, rfl⟩ := ri_form a1
    replace hrb := Lib.hid (bytes_below hrb.out q_3)
    replace hT := Lib.hid (tabs_next hT.out q_3)
    replace bq := Lib.hid (below_on bq.out q_3)
    replace a1 := Lib.hid a1
    go_wp2_with fail
    refine hK.out _ _ (trivial) (fun hSn => ?_)
    clear hS
    have hS := hSn
    clear hSn
    clear hK K
    try simp only [Act.put, List.setIfInBounds_toArray, List.set_cons_zero, List.set_cons_succ]
    clear q_3
    refine wpAnyH_ready (rs := [5]) (by kernel_rfl) (by simp) (AllReadyH.cons rfl (fun K hK => ?_) AllReadyH.nil)
    go_simp
    go_at_call 11
    refine (rV.out _ hrb.out).mono ?_
    rintro e w_5 ⟨v_a2, rfl, a2, q_5⟩
    obtain ⟨p_a2, c_a2, rfl⟩ := ri_form a2
    replace hrb := Lib.hid (bytes_below hrb.out q_5)
    replace hT := Lib.hid (tabs_next hT.out q_5)
    replace a1 := Lib.hid (ri_below a1.out q_5)
    replace bq := Lib.hid (below_on bq.out q_5)
    replace a2 := Lib.hid a2
    go_wp2_with fail
    refine hK.out _ _ (trivial) (fun hSn => ?_)
    clear hS
    have hS := hSn
    clear hSn
    clear hK K
    try simp only [Act.put, List.setIfInBounds_toArray, List.set_cons_zero, List.set_cons_succ]
    clear q_5
    refine wpAnyH_ready (rs := [6]) (by kernel_rfl) (by simp) (AllReadyH.cons rfl (fun K hK => ?_) AllReadyH.nil)
    go_simp
    go_at_call 9
    refine (same_self _ _ V _ hVl.out a1.out a2.out).mono ?_
    rintro e w_6 ⟨rfl, q_6⟩
    replace hrb := Lib.hid (bytes_below hrb.out q_6)
    replace hT := Lib.hid (tabs_next hT.out q_6)
    replace a1 := Lib.hid (ri_below a1.out q_6)
    replace a2 := Lib.hid (ri_below a2.out q_6)
    replace bq := Lib.hid (below_on bq.out q_6)
    go_wp2_with fail
    refine hK.out _ _ (trivial) (fun hSn => ?_)
    clear hS
    have hS := hSn
    clear hSn
    clear hK K
    try simp only [Act.put, List.setIfInBounds_toArray, List.set_cons_zero, List.set_cons_succ]
    clear q_6
    clear a1 a2
    refine' wpAnyH_take (i := 7) (oi := ⟨_, _, _, _, _, _⟩) (v := _) rfl (by kernel_rfl) (by kernel_rfl) (by kernel_rfl) (fun _ _ _ h => h) (Or.inl ⟨by rfl, ?hy7⟩) hS ?rest7
    case hy7 => (intro wz hSw; (try dsimp only at hSw); go_simp; try with_reducible rfl)
    try simp only [Act.put, List.setIfInBounds_toArray, List.set_cons_zero, List.set_cons_succ]
    refine' wpAnyH_take (i := 8) (oi := ⟨_, _, _, _, _, _⟩) (v := _) rfl (by kernel_rfl) (by kernel_rfl) (by kernel_rfl) (fun _ _ _ h => h) (Or.inl ⟨by rfl, ?hy8⟩) hS ?rest8
    case hy8 => (intro wz hSw; (try dsimp only at hSw); go_simp; try with_reducible rfl)
    try simp only [Act.put, List.setIfInBounds_toArray, List.set_cons_zero, List.set_cons_succ]
    refine' wpAnyH_take (i := 9) (oi := ⟨_, _, _, _, _, _⟩) (v := _) rfl (by kernel_rfl) (by kernel_rfl) (by kernel_rfl) (fun _ _ _ h => h) (Or.inl ⟨by rfl, ?hy9⟩) hS ?rest9
    case hy9 => (intro wz hSw; (try dsimp only at hSw); go_simp; try with_reducible rfl)
    try simp only [Act.put, List.setIfInBounds_toArray, List.set_cons_zero, List.set_cons_succ]
    refine' wpAnyH_take (i := 11) (oi := ⟨_, _, _, _, _, _⟩) (v := _) rfl (by kernel_rfl) (by kernel_rfl) (by kernel_rfl) (fun _ _ _ h => h) (Or.inl ⟨by rfl, ?hy11⟩) hS ?rest11
    case hy11 => (intro wz hSw; (try dsimp only at hSw); go_simp; try with_reducible rfl)
    try simp only [Act.put, List.setIfInBounds_toArray, List.set_cons_zero, List.set_cons_succ]
    refine wpAnyH_ready (rs := [10]) (by kernel_rfl) (by simp) (AllReadyH.cons rfl (fun K hK => ?_) AllReadyH.nil)
    go_simp
    go_at_call 13
    refine (hC.out _ hT.out hrb.out).mono ?_
    rintro e w_10 ⟨v_b1, rfl, b1, q_10⟩
    obtain ⟨p_b1, c_b1, rfl⟩ := rr_form b1
    replace hrb := Lib.hid (bytes_below hrb.out q_10)
    replace hT := Lib.hid (tabs_next hT.out q_10)
    replace bq := Lib.hid (below_on bq.out q_10)
    replace b1 := Lib.hid b1
    go_wp2_with fail
    refine hK.out _ _ (trivial) (fun hSn => ?_)
    clear hS
    have hS := hSn
    clear hSn
    clear hK K
    try simp only [Act.put, List.setIfInBounds_toArray, List.set_cons_zero, List.set_cons_succ]
    clear q_10
    refine wpAnyH_ready (rs := [12]) (by kernel_rfl) (by simp) (AllReadyH.cons rfl (fun K hK => ?_) AllReadyH.nil)
    go_simp
    go_at_call 14
    refine (rC.out _ hrb.out).mono ?_
    rintro e w_12 ⟨v_b2, rfl, b2, q_12⟩
    obtain ⟨p_b2, c_b2, rfl⟩ := rr_form b2
    replace hrb := Lib.hid (bytes_below hrb.out q_12)
    replace hT := Lib.hid (tabs_next hT.out q_12)
    replace b1 := Lib.hid (rr_below b1.out q_12)
    replace bq := Lib.hid (below_on bq.out q_12)
    replace b2 := Lib.hid b2
    go_wp2_with fail
    refine hK.out _ _ (trivial) (fun hSn => ?_)
    clear hS
    have hS := hSn
    clear hSn
    clear hK K
    try simp only [Act.put, List.setIfInBounds_toArray, List.set_cons_zero, List.set_cons_succ]
    clear q_12
    refine wpAnyH_ready (rs := [13]) (by kernel_rfl) (by simp) (AllReadyH.cons rfl (fun K hK => ?_) AllReadyH.nil)
    go_simp
    go_at_call 12
    refine (same_selfR _ _ C _ hCn.out hCl.out b1.out b2.out).mono ?_
    rintro e w_13 ⟨rfl, q_13⟩
    replace hrb := Lib.hid (bytes_below hrb.out q_13)
    replace hT := Lib.hid (tabs_next hT.out q_13)
    replace b1 := Lib.hid (rr_below b1.out q_13)
    replace b2 := Lib.hid (rr_below b2.out q_13)
    replace bq := Lib.hid (below_on bq.out q_13)
    go_wp2_with fail
    refine hK.out _ _ (trivial) (fun hSn => ?_)
    clear hS
    have hS := hSn
    clear hSn
    clear hK K
    try simp only [Act.put, List.setIfInBounds_toArray, List.set_cons_zero, List.set_cons_succ]
    clear q_13
    clear b1 b2
    refine' wpAnyH_take (i := 14) (oi := ⟨_, _, _, _, _, _⟩) (v := _) rfl (by kernel_rfl) (by kernel_rfl) (by kernel_rfl) (fun _ _ _ h => h) (Or.inl ⟨by rfl, ?hy14⟩) hS ?rest14
    case hy14 => (intro wz hSw; (try dsimp only at hSw); go_simp; try with_reducible rfl)
    try simp only [Act.put, List.setIfInBounds_toArray, List.set_cons_zero, List.set_cons_succ]
    refine' wpAnyH_take (i := 15) (oi := ⟨_, _, _, _, _, _⟩) (v := _) rfl (by kernel_rfl) (by kernel_rfl) (by kernel_rfl) (fun _ _ _ h => h) (Or.inl ⟨by rfl, ?hy15⟩) hS ?rest15
    case hy15 => (intro wz hSw; (try dsimp only at hSw); go_simp; try with_reducible rfl)
    try simp only [Act.put, List.setIfInBounds_toArray, List.set_cons_zero, List.set_cons_succ]
    refine' wpAnyH_take (i := 16) (oi := ⟨_, _, _, _, _, _⟩) (v := _) rfl (by kernel_rfl) (by kernel_rfl) (by kernel_rfl) (fun _ _ _ h => h) (Or.inl ⟨by rfl, ?hy16⟩) hS ?rest16
    case hy16 => (intro wz hSw; (try dsimp only at hSw); go_simp; try with_reducible rfl)
    try simp only [Act.put, List.setIfInBounds_toArray, List.set_cons_zero, List.set_cons_succ]
    refine' wpAnyH_take (i := 19) (oi := ⟨_, _, _, _, _, _⟩) (v := _) rfl (by kernel_rfl) (by kernel_rfl) (by kernel_rfl) (fun _ _ _ h => h) (Or.inl ⟨by rfl, ?hy19⟩) hS ?rest19
    case hy19 => (intro wz hSw; (try dsimp only at hSw); go_simp; try with_reducible rfl)
    try simp only [Act.put, List.setIfInBounds_toArray, List.set_cons_zero, List.set_cons_succ]
    refine wpAnyH_ready (rs := [17]) (by kernel_rfl) (by simp) (AllReadyH.cons rfl (fun K hK => ?_) AllReadyH.nil)
    go_simp
    go_at_call 15
    refine (hF.out _ hT.out hrb.out).mono ?_
    rintro e w_17 ⟨v_f1, rfl, f1, q_17⟩
    replace hrb := Lib.hid (bytes_below hrb.out q_17)
    replace hT := Lib.hid (tabs_next hT.out q_17)
    replace bq := Lib.hid (below_on bq.out q_17)
    replace f1 := Lib.hid f1
    clear hS
    go_wp2_with fail
    refine hK.out _ _ (trivial) (fun _ => wpAnyH_mono (S' := fun w' => (convert 22 9 (v_f1)).run Tryz.prog w' = .ok (.string ⟨F.toArray⟩) w') (fun _ _ => trivial) _ _ _ _ ?_)
    have hS : (fun w' => (convert 22 9 (v_f1)).run Tryz.prog w' = .ok (.string ⟨F.toArray⟩) w') w_17 := run_toStr (v_f1) F w_17 f1.out
    clear hK K
    try simp only [Act.put, List.setIfInBounds_toArray, List.set_cons_zero, List.set_cons_succ]
    clear q_17
    refine' wpAnyH_take (i := 18) (oi := ⟨_, _, _, _, _, _⟩) (v := _) rfl (by kernel_rfl) (by kernel_rfl) (by kernel_rfl) (fun _ _ _ h => h) (Or.inl ⟨by rfl, ?hy18⟩) hS ?rest18
    case hy18 => (intro wz hSw; (try dsimp only at hSw); go_simp; try with_reducible rfl)
    try simp only [Act.put, List.setIfInBounds_toArray, List.set_cons_zero, List.set_cons_succ]
    refine wpAnyH_ready (rs := [20]) (by kernel_rfl) (by simp) (AllReadyH.cons rfl (fun K hK => ?_) AllReadyH.nil)
    go_simp
    go_at_call 16
    refine (rF.out _ hrb.out).mono ?_
    rintro e w_20 ⟨v_f2, rfl, f2, q_20⟩
    replace f1 := Lib.hid (bytes_below f1.out q_20)
    replace hrb := Lib.hid (bytes_below hrb.out q_20)
    replace hT := Lib.hid (tabs_next hT.out q_20)
    replace bq := Lib.hid (below_on bq.out q_20)
    replace f2 := Lib.hid f2
    clear hS
    go_wp2_with fail
    refine hK.out _ _ (run_toStr (v_f1) F w_20 f1.out) (fun _ => wpAnyH_mono (S' := fun w' => (convert 22 9 (v_f2)).run Tryz.prog w' = .ok (.string ⟨F.toArray⟩) w' ∧ (convert 22 9 (v_f1)).run Tryz.prog w' = .ok (.string ⟨F.toArray⟩) w') (fun _ h => h.2) _ _ _ _ ?_)
    have hS : (fun w' => (convert 22 9 (v_f2)).run Tryz.prog w' = .ok (.string ⟨F.toArray⟩) w' ∧ (convert 22 9 (v_f1)).run Tryz.prog w' = .ok (.string ⟨F.toArray⟩) w') w_20 := ⟨run_toStr (v_f2) F w_20 f2.out, run_toStr (v_f1) F w_20 f1.out⟩
    clear hK K
    try simp only [Act.put, List.setIfInBounds_toArray, List.set_cons_zero, List.set_cons_succ]
    clear q_20
    refine' wpAnyH_take (i := 21) (oi := ⟨_, _, _, _, _, _⟩) (v := _) rfl (by kernel_rfl) (by kernel_rfl) (by kernel_rfl) (fun _ _ _ h => h) (Or.inl ⟨by rfl, ?hy21⟩) hS ?rest21
    case hy21 => (intro wz hSw; (try dsimp only at hSw); go_simp; try with_reducible rfl)
    try simp only [Act.put, List.setIfInBounds_toArray, List.set_cons_zero, List.set_cons_succ]
    refine' wpAnyH_take (i := 22) (oi := ⟨_, _, _, _, _, _⟩) (v := _) rfl (by kernel_rfl) (by kernel_rfl) (by kernel_rfl) (fun _ _ _ h => h) (Or.inl ⟨by rfl, ?hy22⟩) hS ?rest22
    case hy22 => (intro wz hSw; (try dsimp only at hSw); go_simp; try with_reducible rfl)
    try simp only [Act.put, List.setIfInBounds_toArray, List.set_cons_zero, List.set_cons_succ]
    refine' wpAnyH_take (i := 23) (oi := ⟨_, _, _, _, _, _⟩) (v := _) rfl (by kernel_rfl) (by kernel_rfl) (by kernel_rfl) (fun _ _ _ h => h) (Or.inl ⟨by rfl, ?hy23⟩) hS ?rest23
    case hy23 => (intro wz hSw; (try dsimp only at hSw); go_simp; try with_reducible rfl)
    try simp only [Act.put, List.setIfInBounds_toArray, List.set_cons_zero, List.set_cons_succ]
    refine' wpAnyH_take (i := 24) (oi := ⟨_, _, _, _, _, _⟩) (v := _) rfl (by kernel_rfl) (by kernel_rfl) (by kernel_rfl) (fun _ _ _ h => h) (Or.inl ⟨by rfl, ?hy24⟩) hS ?rest24
    case hy24 => (intro wz hSw; (try dsimp only at hSw); go_simp; try with_reducible rfl)
    try simp only [Act.put, List.setIfInBounds_toArray, List.set_cons_zero, List.set_cons_succ]
    refine' wpAnyH_take (i := 25) (oi := ⟨_, _, _, _, _, _⟩) (v := _) rfl (by kernel_rfl) (by kernel_rfl) (by kernel_rfl) (fun _ _ _ h => h) (Or.inl ⟨by rfl, ?hy25⟩) hS ?rest25
    case hy25 => (intro wz hSw; (try dsimp only at hSw); go_simp; try with_reducible rfl)
    try simp only [Act.put, List.setIfInBounds_toArray, List.set_cons_zero, List.set_cons_succ]
    refine' wpAnyH_take (i := 27) (oi := ⟨_, _, _, _, _, _⟩) (v := _) rfl (by kernel_rfl) (by kernel_rfl) (by kernel_rfl) (fun _ _ _ h => h) (Or.inl ⟨by rfl, ?hy27⟩) hS ?rest27
    case hy27 => (intro wz hSw; (try dsimp only at hSw); go_simp; try with_reducible rfl)
    try simp only [Act.put, List.setIfInBounds_toArray, List.set_cons_zero, List.set_cons_succ]
    refine wpAnyH_ready (rs := [26]) (by kernel_rfl) (by simp) (AllReadyH.cons rfl (fun K hK => ?_) AllReadyH.nil)
    go_simp
    go_at_call 18
    refine (hX.out _ hT.out hrb.out).mono ?_
    rintro e w_26 ⟨v_x1, rfl, x1, q_26⟩
    obtain ⟨p_x1, c_x1, rfl⟩ := sr_form x1
    replace f2 := Lib.hid (bytes_below f2.out q_26)
    replace f1 := Lib.hid (bytes_below f1.out q_26)
    replace hrb := Lib.hid (bytes_below hrb.out q_26)
    replace hT := Lib.hid (tabs_next hT.out q_26)
    replace bq := Lib.hid (below_on bq.out q_26)
    replace x1 := Lib.hid x1
    go_wp2_with fail
    refine hK.out _ _ (⟨run_toStr (v_f2) F w_26 f2.out, run_toStr (v_f1) F w_26 f1.out⟩) (fun hSn => ?_)
    clear hS
    have hS := hSn
    clear hSn
    clear hK K
    try simp only [Act.put, List.setIfInBounds_toArray, List.set_cons_zero, List.set_cons_succ]
    clear q_26
    refine wpAnyH_ready (rs := [28]) (by kernel_rfl) (by simp) (AllReadyH.cons rfl (fun K hK => ?_) AllReadyH.nil)
    go_simp
    go_at_call 19
    refine (rX.out _ hrb.out).mono ?_
    rintro e w_28 ⟨v_x2, rfl, x2, q_28⟩
    obtain ⟨p_x2, c_x2, rfl⟩ := sr_form x2
    replace f2 := Lib.hid (bytes_below f2.out q_28)
    replace f1 := Lib.hid (bytes_below f1.out q_28)
    replace hrb := Lib.hid (bytes_below hrb.out q_28)
    replace hT := Lib.hid (tabs_next hT.out q_28)
    replace x1 := Lib.hid (sr_below x1.out q_28)
    replace bq := Lib.hid (below_on bq.out q_28)
    replace x2 := Lib.hid x2
    go_wp2_with fail
    refine hK.out _ _ (⟨run_toStr (v_f2) F w_28 f2.out, run_toStr (v_f1) F w_28 f1.out⟩) (fun hSn => ?_)
    clear hS
    have hS := hSn
    clear hSn
    clear hK K
    try simp only [Act.put, List.setIfInBounds_toArray, List.set_cons_zero, List.set_cons_succ]
    clear q_28
    refine wpAnyH_ready (rs := [29]) (by kernel_rfl) (by simp) (AllReadyH.cons rfl (fun K hK => ?_) AllReadyH.nil)
    go_simp
    go_at_call 17
    refine (texts_self _ _ X _ hXn.out x1.out x2.out).mono ?_
    rintro e w_29 ⟨rfl, q_29⟩
    replace f2 := Lib.hid (bytes_below f2.out q_29)
    replace f1 := Lib.hid (bytes_below f1.out q_29)
    replace hrb := Lib.hid (bytes_below hrb.out q_29)
    replace hT := Lib.hid (tabs_next hT.out q_29)
    replace x1 := Lib.hid (sr_below x1.out q_29)
    replace x2 := Lib.hid (sr_below x2.out q_29)
    replace bq := Lib.hid (below_on bq.out q_29)
    go_wp2_with fail
    refine hK.out _ _ (⟨run_toStr (v_f2) F w_29 f2.out, run_toStr (v_f1) F w_29 f1.out⟩) (fun hSn => ?_)
    clear hS
    have hS := hSn
    clear hSn
    clear hK K
    try simp only [Act.put, List.setIfInBounds_toArray, List.set_cons_zero, List.set_cons_succ]
    clear q_29
    refine' wpAnyH_take (i := 30) (oi := ⟨_, _, _, _, _, _⟩) (v := _) rfl (by kernel_rfl) (by kernel_rfl) (by kernel_rfl) (fun _ _ _ h => h) (Or.inl ⟨by rfl, ?hy30⟩) hS ?rest30
    case hy30 => (intro wz hSw; (try dsimp only at hSw); go_simp; try with_reducible rfl)
    try simp only [Act.put, List.setIfInBounds_toArray, List.set_cons_zero, List.set_cons_succ]
    refine' wpAnyH_take (i := 31) (oi := ⟨_, _, _, _, _, _⟩) (v := _) rfl (by kernel_rfl) (by kernel_rfl) (by kernel_rfl) (fun _ _ _ h => h) (Or.inl ⟨by rfl, ?hy31⟩) hS ?rest31
    case hy31 => (intro wz hSw; (try dsimp only at hSw); go_simp; try with_reducible rfl)
    try simp only [Act.put, List.setIfInBounds_toArray, List.set_cons_zero, List.set_cons_succ]
    refine wpAnyH_done (by kernel_rfl) ?_ _
    clear hS
    go_simp
    go_wp2_with fail
    go_ret
    exact ⟨rfl, bq.out⟩
  · have hl' : decide (200 < b.length) = true := decide_eq_true (by omega)
    have hl2 : (200 : Int) < (b.length : Int) := by omega
    clear hV0 hC0 hF0 hX0
    go_enter Tryz.func3, Tryz.ntmps3
    go_wp2_with fail
    refine (hawake.out _ hT.out).mono ?_
    rintro e w1 ⟨rfl, q1⟩
    go_wp2_with fail
    go_ret
    exact ⟨rfl, q1⟩
end Go.Proofs.YtnlnkjaapdefiaaGreatDoor
