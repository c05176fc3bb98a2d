/- Layer 14: the walk of FlowOnce. -/
import Derived.Test.YtnlnkjaapdefiaaGreatDoorFwW0
import Derived.Test.YtnlnkjaapdefiaaGreatDoorCv
import Derived.Test.YtnlnkjaapdefiaaGreatDoorBasP
import Derived.Deep.RegionHeld
import Derived.Deep.DeepCutAuto
import Derived.Deep.LoopGhost
import Derived.OrdersHeld
namespace Go.Proofs.YtnlnkjaapdefiaaGreatDoor
set_option linter.unusedSimpArgs false
set_option linter.unusedVariables false
open Go.RowKit Go.Lib
theorem bytes_drewO {w : World} {v : Value} {l : List UInt8} (h : RBytes w v l) : RBytes w.drew v l := h
theorem tabs_drewO {w : World} (h : Tabs w) : Tabs w.drew := tabs_next h (Below.refl _ _).drew
set_option maxHeartbeats 6400000 in
set_option maxRecDepth 100000 in
theorem flowOnce_walk (hV : ValuesC14) (hC : ClustersC14) (hF0 : FC14) (hX0 : TextsC14) (vb : Value) (b : List UInt8) (w : World) (hT : Tabs w) (hvb : RBytes w vb b) :
    Calls Tryz.prog 6 #[vb] w fun e w' => e = .returned (.bool true) ∧ Below w.heap.size w w' := by
  obtain ⟨pb, cb, rfl⟩ := bytes_form hvb
  have hawake := Lib.hid (fun W h => awake14 hV hC hF0 W h)
  replace hT := Lib.hid hT
  have hrb := Lib.hid hvb
  clear hvb
  by_cases hl : b.length ≤ 200
  · have hl' : decide (200 < b.length) = false := decide_eq_false (by omega)
    have hl2 : ¬ (200 : Int) < (b.length : Int) := by omega
    have hsm := Flw.small_of hl
    have hst := Flw.small_text hl
    have hon := Flw.frame_once b
    have hbig : (Flw.textsI b).flatten.length ≤ 50000 := hst.b0
    have hFb0 := fun W t h => hF0 (.slice pb b.length cb) b W t hsm h
    have hF1 := fun V W t h => hF0 V ((Flw.textsI b).flatten) W t hst h
    have htx := fun W t h => hX0 (.slice pb b.length cb) b W t hsm h
    rw [hon] at hF1
    have hml : (Flw.textsI b).length ≤ 50000 := by
      unfold Flw.textsI
      rw [List.length_map]
      exact Flw.clusters_few hsm.b4
    obtain ⟨X, hX⟩ : ∃ X, Flw.frameI b = X := ⟨_, rfl⟩
    obtain ⟨TS, hTS⟩ : ∃ TS, Flw.textsI b = TS := ⟨_, rfl⟩
    rw [hX] at hF1 hFb0
    rw [hTS] at hF1 htx hbig hml
    unfold ToldB at hF1 hFb0
    unfold ToldS at htx
    have hF := Lib.hid hF1
    have hFb := Lib.hid hFb0
    replace htx := Lib.hid htx
    clear hX hTS hF1 hFb0 hon hst hsm hV hC hF0 hX0
    go_enter Tryz.func6, Tryz.ntmps6
    go_wp2_with fail
    refine (hawake.out _ hT.out).mono ?_
    rintro e w1 ⟨rfl, q1⟩
    replace hrb := Lib.hid (bytes_below hrb.out q1)
    have bq := Lib.hid q1
    replace hT := Lib.hid (tabs_next hT.out q1)
    clear q1
    go_wp2_with fail
    refine (htx.out _ hT.out hrb.out).mono ?_
    rintro e w2 ⟨vt, rfl, rt, q2⟩
    obtain ⟨pt, ct, rfl⟩ := sr_form rt
    replace rt := Lib.hid rt
    replace hrb := Lib.hid (bytes_below hrb.out q2)
    replace bq := Lib.hid (below_on bq.out q2)
    replace hT := Lib.hid (tabs_next hT.out q2)
    clear q2
    go_wp2_with fail
    go_loopg [5, 6] TS.length (fun g vs vi wr => ∃ (i : Nat) (S : ByteArray), i ≤ TS.length ∧ vi = .int .i64 i ∧ g = TS.length - i ∧ vs = .string S ∧ Hid (S.data.toList = (TS.take i).flatten) ∧ w2 = wr)
    case atStart => exact ⟨0, ⟨#[]⟩, Nat.zero_le _, rfl, rfl, rfl, Lib.hid rfl, rfl⟩
    case round =>
      obtain ⟨i, S, hi', rfl, rfl, rfl, hS, rfl⟩ := hrel
      have hSs : S.size ≤ 50000 := by
        have h2 : S.size = S.data.toList.length := rfl
        rw [hS.out] at h2
        have h3 : TS.flatten = (TS.take i).flatten ++ (TS.drop i).flatten := by rw [← List.flatten_append, List.take_append_drop]
        have h4 := congrArg List.length h3
        rw [List.length_append] at h4
        omega
      by_cases hlt : i < TS.length
      · have hlt' : (i : Int) < (TS.length : Int) := by omega
        obtain ⟨b1, o1, rfl, hb1, hc1⟩ := sr_at rt.out (by omega)
        have k1 := hc1 i hlt
        have hXl : TS[i].length ≤ 50000 := by
          have h3 : TS.flatten = (TS.take (i + 1)).flatten ++ (TS.drop (i + 1)).flatten := by rw [← List.flatten_append, List.take_append_drop]
          have h4 := congrArg List.length h3
          rw [List.take_succ_eq_append_getElem hlt, List.flatten_append, List.flatten_cons, List.flatten_nil, List.append_nil, List.length_append, List.length_append] at h4
          omega
        obtain ⟨Q, hQ⟩ : ∃ Q : ByteArray, (⟨TS[i].toArray⟩ : ByteArray) = Q := ⟨_, rfl⟩
        have hQs : Q.size = TS[i].length := by rw [← hQ]; simp [ByteArray.size]
        have hQ2 : Q.size ≤ 50000 := by omega
        have hnx : Hid ((S ++ Q).data.toList = (TS.take (i + 1)).flatten) := Lib.hid (by
          rw [List.take_succ_eq_append_getElem hlt, List.flatten_append, List.flatten_cons, List.flatten_nil, List.append_nil, ← hS.out, ← hQ]
          simp)
        unfold strV at k1
        rw [hQ] at k1
        have hn1 : ¬ 9223372036854775807 < S.size + Q.size := by omega
        clear hc1 hQ hQs hXl hS
        go_wp2_with fail
        go_roundg (TS.length - (i + 1))
        case measure => omega
        case rel => exact ⟨i + 1, _, by omega, by go_num, rfl, rfl, hnx, rfl⟩
      · obtain rfl : i = TS.length := by omega
        have hlt' : decide ((TS.length : Int) < (TS.length : Int)) = false := by simp
        have hS2 := hS.out
        rw [List.take_length] at hS2
        have f := worldB_reads w2.drew S
        rw [hS2] at f
        have qf := worldB_below w2.drew S
        have hT2 := Lib.hid (tabs_next (tabs_drewO hT.out) qf)
        have hrb2 := Lib.hid (bytes_below (bytes_drewO hrb.out) qf)
        have bq2 := Lib.hid (below_on bq.out.drew qf)
        replace f := Lib.hid f
        have hcv := run_toBytes
        clear hS hS2 qf rt
        go_upto_region 10 with (fail)
        refine wp_region_held_drew (S := fun _ => True) (by kernel_rfl) (trivial) (fun hS => ?_)
        refine' wpAnyH_take (i := 0) (oi := ⟨_, _, _, _, _, _⟩) (v := _) rfl (by kernel_rfl) (by kernel_rfl) (by kernel_rfl) (fun _ _ _ h => h) (Or.inl ⟨by rfl, ?hy0⟩) hS ?rest0
        case hy0 => (intro wz hSw; (try dsimp only at hSw); go_simp; try with_reducible rfl)
        try simp only [Act.put, List.setIfInBounds_toArray, List.set_cons_zero, List.set_cons_succ]
        refine' wpAnyH_take (i := 1) (oi := ⟨_, _, _, _, _, _⟩) (v := _) rfl (by kernel_rfl) (by kernel_rfl) (by kernel_rfl) (fun _ _ _ h => h) (Or.inl ⟨by rfl, ?hy1⟩) hS ?rest1
        case hy1 => (intro wz hSw; (try dsimp only at hSw); go_simp; try with_reducible rfl)
        try simp only [Act.put, List.setIfInBounds_toArray, List.set_cons_zero, List.set_cons_succ]
        refine' wpAnyH_take (i := 2) (oi := ⟨_, _, _, _, _, _⟩) (v := _) rfl (by kernel_rfl) (by kernel_rfl) (by kernel_rfl) (fun _ _ _ h => h) (Or.inl ⟨by rfl, ?hy2⟩) hS ?rest2
        case hy2 => (intro wz hSw; (try dsimp only at hSw); go_simp; try with_reducible rfl)
        try simp only [Act.put, List.setIfInBounds_toArray, List.set_cons_zero, List.set_cons_succ]
        refine' wpAnyH_take (i := 6) (oi := ⟨_, _, _, _, _, _⟩) (v := _) rfl (by kernel_rfl) (by kernel_rfl) (by kernel_rfl) (fun _ _ _ h => h) (Or.inl ⟨by rfl, ?hy6⟩) hS ?rest6
        case hy6 => (intro wz hSw; (try dsimp only at hSw); go_simp; try with_reducible rfl)
        try simp only [Act.put, List.setIfInBounds_toArray, List.set_cons_zero, List.set_cons_succ]
        refine wpAnyH_ready (rs := [3]) (by kernel_rfl) (by simp) (AllReadyH.cons rfl (fun K hK => ?_) AllReadyH.nil)
        go_simp
        go_wp2_with fail
        refine hK.out _ _ (trivial) (fun hSn => ?_)
        clear hS
        have hS := hSn
        clear hSn
        clear hK K
        try simp only [Act.put, List.setIfInBounds_toArray, List.set_cons_zero, List.set_cons_succ]
        refine wpAnyH_ready (rs := [4]) (by kernel_rfl) (by simp) (AllReadyH.cons rfl (fun K hK => ?_) AllReadyH.nil)
        go_simp
        go_at_call 15
        refine (hF.out _ _ hT2.out f.out).mono ?_
        rintro e w_4 ⟨v_f1, rfl, f1, q_4⟩
        replace hT := Lib.hid (tabs_next hT2.out q_4)
        replace hrb := Lib.hid (bytes_below hrb2.out q_4)
        replace bq := Lib.hid (below_on bq2.out q_4)
        replace f1 := Lib.hid f1
        clear hS
        go_wp2_with fail
        refine hK.out _ _ (trivial) (fun _ => wpAnyH_mono (S' := fun w' => (convert 22 9 (v_f1)).run Tryz.prog w' = .ok (.string ⟨X.toArray⟩) w') (fun _ _ => trivial) _ _ _ _ ?_)
        have hS : (fun w' => (convert 22 9 (v_f1)).run Tryz.prog w' = .ok (.string ⟨X.toArray⟩) w') w_4 := run_toStr (v_f1) X w_4 f1.out
        clear hK K
        try simp only [Act.put, List.setIfInBounds_toArray, List.set_cons_zero, List.set_cons_succ]
        clear q_4
        refine' wpAnyH_take (i := 5) (oi := ⟨_, _, _, _, _, _⟩) (v := _) rfl (by kernel_rfl) (by kernel_rfl) (by kernel_rfl) (fun _ _ _ h => h) (Or.inl ⟨by rfl, ?hy5⟩) hS ?rest5
        case hy5 => (intro wz hSw; (try dsimp only at hSw); go_simp; try with_reducible rfl)
        try simp only [Act.put, List.setIfInBounds_toArray, List.set_cons_zero, List.set_cons_succ]
        refine wpAnyH_ready (rs := [7]) (by kernel_rfl) (by simp) (AllReadyH.cons rfl (fun K hK => ?_) AllReadyH.nil)
        go_simp
        go_at_call 15
        refine (hFb.out _ hT.out hrb.out).mono ?_
        rintro e w_7 ⟨v_f2, rfl, f2, q_7⟩
        replace f1 := Lib.hid (bytes_below f1.out q_7)
        replace hT := Lib.hid (tabs_next hT.out q_7)
        replace hrb := Lib.hid (bytes_below hrb.out q_7)
        replace bq := Lib.hid (below_on bq.out q_7)
        replace f2 := Lib.hid f2
        clear hS
        go_wp2_with fail
        refine hK.out _ _ (run_toStr (v_f1) X w_7 f1.out) (fun _ => wpAnyH_mono (S' := fun w' => (convert 22 9 (v_f2)).run Tryz.prog w' = .ok (.string ⟨X.toArray⟩) w' ∧ (convert 22 9 (v_f1)).run Tryz.prog w' = .ok (.string ⟨X.toArray⟩) w') (fun _ h => h.2) _ _ _ _ ?_)
        have hS : (fun w' => (convert 22 9 (v_f2)).run Tryz.prog w' = .ok (.string ⟨X.toArray⟩) w' ∧ (convert 22 9 (v_f1)).run Tryz.prog w' = .ok (.string ⟨X.toArray⟩) w') w_7 := ⟨run_toStr (v_f2) X w_7 f2.out, run_toStr (v_f1) X w_7 f1.out⟩
        clear hK K
        try simp only [Act.put, List.setIfInBounds_toArray, List.set_cons_zero, List.set_cons_succ]
        clear q_7
        refine' wpAnyH_take (i := 8) (oi := ⟨_, _, _, _, _, _⟩) (v := _) rfl (by kernel_rfl) (by kernel_rfl) (by kernel_rfl) (fun _ _ _ h => h) (Or.inl ⟨by rfl, ?hy8⟩) hS ?rest8
        case hy8 => (intro wz hSw; (try dsimp only at hSw); go_simp; try with_reducible rfl)
        try simp only [Act.put, List.setIfInBounds_toArray, List.set_cons_zero, List.set_cons_succ]
        refine' wpAnyH_take (i := 9) (oi := ⟨_, _, _, _, _, _⟩) (v := _) rfl (by kernel_rfl) (by kernel_rfl) (by kernel_rfl) (fun _ _ _ h => h) (Or.inl ⟨by rfl, ?hy9⟩) hS ?rest9
        case hy9 => (intro wz hSw; (try dsimp only at hSw); go_simp; try with_reducible rfl)
        try simp only [Act.put, List.setIfInBounds_toArray, List.set_cons_zero, List.set_cons_succ]
        refine' wpAnyH_take (i := 10) (oi := ⟨_, _, _, _, _, _⟩) (v := _) rfl (by kernel_rfl) (by kernel_rfl) (by kernel_rfl) (fun _ _ _ h => h) (Or.inl ⟨by rfl, ?hy10⟩) hS ?rest10
        case hy10 => (intro wz hSw; (try dsimp only at hSw); go_simp; try with_reducible rfl)
        try simp only [Act.put, List.setIfInBounds_toArray, List.set_cons_zero, List.set_cons_succ]
        refine' wpAnyH_take (i := 11) (oi := ⟨_, _, _, _, _, _⟩) (v := _) rfl (by kernel_rfl) (by kernel_rfl) (by kernel_rfl) (fun _ _ _ h => h) (Or.inl ⟨by rfl, ?hy11⟩) hS ?rest11
        case hy11 => (intro wz hSw; (try dsimp only at hSw); go_simp; try with_reducible rfl)
        try simp only [Act.put, List.setIfInBounds_toArray, List.set_cons_zero, List.set_cons_succ]
        refine wpAnyH_done (by kernel_rfl) ?_ _
        clear hS
        go_simp
        go_wp2_with fail
        go_ret
        exact ⟨rfl, bq.out⟩
  · have hl' : decide (200 < b.length) = true := decide_eq_true (by omega)
    have hl2 : (200 : Int) < (b.length : Int) := by omega
    clear hV hC hF0 hX0
    go_enter Tryz.func6, Tryz.ntmps6
    go_wp2_with fail
    refine (hawake.out _ hT.out).mono ?_
    rintro e w1 ⟨rfl, q1⟩
    go_wp2_with fail
    go_ret
    exact ⟨rfl, q1⟩
end Go.Proofs.YtnlnkjaapdefiaaGreatDoor
