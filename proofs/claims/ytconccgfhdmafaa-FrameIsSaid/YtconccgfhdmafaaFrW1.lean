/- Layer 13: the walk of FrameIs. -/
import Derived.Test.YtconccgfhdmafaaFrW0
import Derived.Test.YtconccgfhdmafaaFrR2
import Derived.Test.YtconccgfhdmafaaBasP
import Derived.Deep.RegionHeld
import Derived.OrdersHeld
namespace Go.Proofs.Ytconccgfhdmafaa
set_option linter.unusedSimpArgs false
set_option linter.unusedVariables false
open Go.RowKit Go.Lib

theorem ri_drew13 {w : World} {v : Value} {l : List Int} (h : RI w v l) : RI w.drew v l := h
theorem bytes_drew {w : World} {v : Value} {l : List UInt8} (h : RBytes w v l) : RBytes w.drew v l := h


theorem Frm.all_few (b : List UInt8) : (Frm.allF b).1.length ≤ b.length := by
  obtain ⟨ts, r, e, hb, _, h, _⟩ := Frm.all_spec b
  rw [h]
  have := Frm.frames_len ts
  have h2 := congrArg List.length hb
  rw [List.length_append] at h2
  simp only
  omega

set_option maxHeartbeats 12800000 in
set_option maxRecDepth 100000 in
theorem frameIs_walk (hP : PutC13) (hT : TakeC13) (hA : AllC13) (hR : RefC13) (v : Value) (c : List Int) (vb : Value) (b : List UInt8) (w : World) (hv : RI w v c ∧ WfI c) (hvb : RBytes w vb b) :
    Calls Try.prog 3 #[v, vb] w fun e w' => e = .returned (.bool true) ∧ Below w.heap.size w w' := by
  obtain ⟨hri, _⟩ := hv
  obtain ⟨p, cap, rfl⟩ := ri_form hri
  obtain ⟨pb, cb, rfl⟩ := bytes_form hvb
  have hawake := Lib.hid (awake13 hP hT hR)
  replace hri := Lib.hid hri
  have hrb := Lib.hid hvb
  clear hvb
  by_cases hl : c.length ≤ 200
  · have hl' : decide (200 < c.length) = false := decide_eq_false (by omega)
    have hl2 : ¬ (200 : Int) < (c.length : Int) := by omega
    by_cases hm : b.length ≤ 400
    · have hm' : decide (400 < b.length) = false := decide_eq_false (by omega)
      have hm2 : ¬ (400 : Int) < (b.length : Int) := by omega
      have htake := fun W h => hT (.slice pb b.length cb) b W (by omega) h
      have rtake := fun W h => rtake13_any (.slice pb b.length cb) b W (by omega) h
      have hall := fun W h => hA (.slice pb b.length cb) b W (by omega) h
      have rall := fun W h => rall13_any (.slice pb b.length cb) b W (by omega) h
      have hput := fun W h => hP (.slice p c.length cap) c W (by omega) h
      have rput := fun W h => rput13_any (.slice p c.length cap) c W (by omega) h
      have rref := rrefusal_any
      have hfew := Frm.all_few b
      obtain ⟨q, hq⟩ : ∃ q, Frm.takeF b = q := ⟨_, rfl⟩
      rw [hq] at htake rtake
      obtain ⟨a, ha⟩ : ∃ a, Frm.allF b = a := ⟨_, rfl⟩
      rw [ha] at hall rall hfew
      obtain ⟨P, hPP⟩ : ∃ P, Frm.putF c = P := ⟨_, rfl⟩
      rw [hPP] at hput rput
      obtain ⟨R0, hR0⟩ : ∃ R0 : List UInt8, [0] = R0 := ⟨_, rfl⟩
      unfold RefC13 at hR
      rw [hR0] at hR
      have rref' : ∀ W, Calls Try.prog 16 #[] W (ToldB R0 W) := fun W => hR0 ▸ rref W
      obtain ⟨T, n, e0⟩ := q
      obtain ⟨TS, m, e1⟩ := a
      unfold Took at htake rtake
      unfold TookAll at hall rall
      unfold ToldB at hput rput hR rref'
      dsimp only at htake rtake hall rall hfew
      replace htake := Lib.hid htake
      replace rtake := Lib.hid rtake
      replace hall := Lib.hid hall
      replace rall := Lib.hid rall
      replace hput := Lib.hid hput
      replace rput := Lib.hid rput
      have href := Lib.hid hR
      replace rref := Lib.hid rref'
      clear hq ha hPP hR0 hR rref' hP hT hA
      go_enter Try.func3, Try.ntmps3
      go_wp2_with fail
      refine (hawake.out _).mono ?_
      rintro e w1 ⟨rfl, q1⟩
      replace hri := Lib.hid (ri_below hri.out q1)
      replace hrb := Lib.hid (bytes_below hrb.out q1)
      have bq := Lib.hid q1
      clear q1
      go_wp2_with fail
      refine (htake.out _ hrb.out).mono ?_
      rintro e w2 ⟨v_t, rfl, t, q2⟩
      obtain ⟨p_t, c_t, rfl⟩ := bytes_form t
      replace t := Lib.hid t
      replace hri := Lib.hid (ri_below hri.out q2)
      replace hrb := Lib.hid (bytes_below hrb.out q2)
      replace bq := Lib.hid (below_on bq.out q2)
      clear q2
      go_wp2_with fail
      refine (rtake.out _ hrb.out).mono ?_
      rintro e w3 ⟨v_u, rfl, u, q3⟩
      obtain ⟨p_u, c_u, rfl⟩ := bytes_form u
      replace u := Lib.hid u
      replace hri := Lib.hid (ri_below hri.out q3)
      replace hrb := Lib.hid (bytes_below hrb.out q3)
      replace t := Lib.hid (bytes_below t.out q3)
      replace bq := Lib.hid (below_on bq.out q3)
      clear q3
      go_wp2_with fail
      refine (hall.out _ hrb.out).mono ?_
      rintro e w4 ⟨v_x, rfl, x, q4⟩
      obtain ⟨p_x, c_x, rfl⟩ := sr_form x
      replace x := Lib.hid x
      replace hri := Lib.hid (ri_below hri.out q4)
      replace hrb := Lib.hid (bytes_below hrb.out q4)
      replace t := Lib.hid (bytes_below t.out q4)
      replace u := Lib.hid (bytes_below u.out q4)
      replace bq := Lib.hid (below_on bq.out q4)
      clear q4
      go_wp2_with fail
      refine (rall.out _ hrb.out).mono ?_
      rintro e w5 ⟨v_y, rfl, y, q5⟩
      obtain ⟨p_y, c_y, rfl⟩ := sr_form y
      replace y := Lib.hid y
      replace hri := Lib.hid (ri_below hri.out q5)
      replace t := Lib.hid (bytes_below t.out q5)
      replace u := Lib.hid (bytes_below u.out q5)
      replace x := Lib.hid (sr_below x.out q5)
      replace bq := Lib.hid (below_on bq.out q5)
      clear q5
      clear hrb
      go_upto_region 8 with (fail)
      replace hri := Lib.hid (ri_drew13 hri.out)
      replace t := Lib.hid (bytes_drew t.out)
      replace u := Lib.hid (bytes_drew u.out)
      replace x := Lib.hid (sr_drew x.out)
      replace y := Lib.hid (sr_drew y.out)
      replace bq := Lib.hid bq.out.drew
      refine wp_region_held_drew (S := fun w' => (convert 23 9 (.slice p_t T.length c_t)).run Try.prog w' = .ok (.string ⟨T.toArray⟩) w' ∧ (convert 23 9 (.slice p_u T.length c_u)).run Try.prog w' = .ok (.string ⟨T.toArray⟩) w') (by kernel_rfl) (⟨run_toStr (.slice p_t T.length c_t) T w5.drew t.out, run_toStr (.slice p_u T.length c_u) T w5.drew u.out⟩) (fun hS => ?_)
      refine' wpAnyH_take (i := 0) (oi := ⟨_, _, _, _, _, _⟩) (v := _) rfl (by kernel_rfl) (by kernel_rfl) (by kernel_rfl) (fun _ _ _ h => h) (Or.inl ⟨by rfl, ?hy0⟩) hS ?rest0
      case hy0 => (intro wz hSw; (try dsimp only at hSw); go_simp; try with_reducible rfl)
      try simp only [Act.put, List.setIfInBounds_toArray, List.set_cons_zero, List.set_cons_succ]
      refine' wpAnyH_take (i := 1) (oi := ⟨_, _, _, _, _, _⟩) (v := _) rfl (by kernel_rfl) (by kernel_rfl) (by kernel_rfl) (fun _ _ _ h => h) (Or.inl ⟨by rfl, ?hy1⟩) hS ?rest1
      case hy1 => (intro wz hSw; (try dsimp only at hSw); go_simp; try with_reducible rfl)
      try simp only [Act.put, List.setIfInBounds_toArray, List.set_cons_zero, List.set_cons_succ]
      refine' wpAnyH_take (i := 2) (oi := ⟨_, _, _, _, _, _⟩) (v := _) rfl (by kernel_rfl) (by kernel_rfl) (by kernel_rfl) (fun _ _ _ h => h) (Or.inl ⟨by rfl, ?hy2⟩) hS ?rest2
      case hy2 => (intro wz hSw; (try dsimp only at hSw); go_simp; try with_reducible rfl)
      try simp only [Act.put, List.setIfInBounds_toArray, List.set_cons_zero, List.set_cons_succ]
      refine' wpAnyH_take (i := 5) (oi := ⟨_, _, _, _, _, _⟩) (v := _) rfl (by kernel_rfl) (by kernel_rfl) (by kernel_rfl) (fun _ _ _ h => h) (Or.inl ⟨by rfl, ?hy5⟩) hS ?rest5
      case hy5 => (intro wz hSw; (try dsimp only at hSw); go_simp; try with_reducible rfl)
      try simp only [Act.put, List.setIfInBounds_toArray, List.set_cons_zero, List.set_cons_succ]
      refine wpAnyH_ready (rs := [3]) (by kernel_rfl) (by simp) (AllReadyH.cons rfl (fun K hK => ?_) AllReadyH.nil)
      go_simp
      go_at_call 13
      refine (hput.out _ hri.out).mono ?_
      rintro e w_3 ⟨v_f1, rfl, f1, q_3⟩
      replace t := Lib.hid (bytes_below t.out q_3)
      replace u := Lib.hid (bytes_below u.out q_3)
      replace hri := Lib.hid (ri_below hri.out q_3)
      replace x := Lib.hid (sr_below x.out q_3)
      replace y := Lib.hid (sr_below y.out q_3)
      replace bq := Lib.hid (below_on bq.out q_3)
      replace f1 := Lib.hid f1
      clear hS
      go_wp2_with fail
      refine hK.out _ _ (⟨run_toStr (.slice p_t T.length c_t) T w_3 t.out, run_toStr (.slice p_u T.length c_u) T w_3 u.out⟩) (fun _ => wpAnyH_mono (S' := fun w' => (convert 23 9 (v_f1)).run Try.prog w' = .ok (.string ⟨P.toArray⟩) w' ∧ (convert 23 9 (.slice p_t T.length c_t)).run Try.prog w' = .ok (.string ⟨T.toArray⟩) w' ∧ (convert 23 9 (.slice p_u T.length c_u)).run Try.prog w' = .ok (.string ⟨T.toArray⟩) w') (fun _ h => h.2) _ _ _ _ ?_)
      have hS : (fun w' => (convert 23 9 (v_f1)).run Try.prog w' = .ok (.string ⟨P.toArray⟩) w' ∧ (convert 23 9 (.slice p_t T.length c_t)).run Try.prog w' = .ok (.string ⟨T.toArray⟩) w' ∧ (convert 23 9 (.slice p_u T.length c_u)).run Try.prog w' = .ok (.string ⟨T.toArray⟩) w') w_3 := ⟨run_toStr (v_f1) P w_3 f1.out, run_toStr (.slice p_t T.length c_t) T w_3 t.out, run_toStr (.slice p_u T.length c_u) T w_3 u.out⟩
      clear hK K
      try simp only [Act.put, List.setIfInBounds_toArray, List.set_cons_zero, List.set_cons_succ]
      clear q_3
      refine' wpAnyH_take (i := 4) (oi := ⟨_, _, _, _, _, _⟩) (v := _) rfl (by kernel_rfl) (by kernel_rfl) (by kernel_rfl) (fun _ _ _ h => h) (Or.inl ⟨by rfl, ?hy4⟩) hS ?rest4
      case hy4 => (intro wz hSw; (try dsimp only at hSw); go_simp; try with_reducible rfl)
      try simp only [Act.put, List.setIfInBounds_toArray, List.set_cons_zero, List.set_cons_succ]
      refine wpAnyH_ready (rs := [6]) (by kernel_rfl) (by simp) (AllReadyH.cons rfl (fun K hK => ?_) AllReadyH.nil)
      go_simp
      go_at_call 14
      refine (rput.out _ hri.out).mono ?_
      rintro e w_6 ⟨v_f2, rfl, f2, q_6⟩
      replace f1 := Lib.hid (bytes_below f1.out q_6)
      replace t := Lib.hid (bytes_below t.out q_6)
      replace u := Lib.hid (bytes_below u.out q_6)
      replace hri := Lib.hid (ri_below hri.out q_6)
      replace x := Lib.hid (sr_below x.out q_6)
      replace y := Lib.hid (sr_below y.out q_6)
      replace bq := Lib.hid (below_on bq.out q_6)
      replace f2 := Lib.hid f2
      clear hS
      go_wp2_with fail
      refine hK.out _ _ (⟨run_toStr (v_f1) P w_6 f1.out, run_toStr (.slice p_t T.length c_t) T w_6 t.out, run_toStr (.slice p_u T.length c_u) T w_6 u.out⟩) (fun _ => wpAnyH_mono (S' := fun w' => (convert 23 9 (v_f2)).run Try.prog w' = .ok (.string ⟨P.toArray⟩) w' ∧ (convert 23 9 (v_f1)).run Try.prog w' = .ok (.string ⟨P.toArray⟩) w' ∧ (convert 23 9 (.slice p_t T.length c_t)).run Try.prog w' = .ok (.string ⟨T.toArray⟩) w' ∧ (convert 23 9 (.slice p_u T.length c_u)).run Try.prog w' = .ok (.string ⟨T.toArray⟩) w') (fun _ h => h.2) _ _ _ _ ?_)
      have hS : (fun w' => (convert 23 9 (v_f2)).run Try.prog w' = .ok (.string ⟨P.toArray⟩) w' ∧ (convert 23 9 (v_f1)).run Try.prog w' = .ok (.string ⟨P.toArray⟩) w' ∧ (convert 23 9 (.slice p_t T.length c_t)).run Try.prog w' = .ok (.string ⟨T.toArray⟩) w' ∧ (convert 23 9 (.slice p_u T.length c_u)).run Try.prog w' = .ok (.string ⟨T.toArray⟩) w') w_6 := ⟨run_toStr (v_f2) P w_6 f2.out, run_toStr (v_f1) P w_6 f1.out, run_toStr (.slice p_t T.length c_t) T w_6 t.out, run_toStr (.slice p_u T.length c_u) T w_6 u.out⟩
      clear hK K
      try simp only [Act.put, List.setIfInBounds_toArray, List.set_cons_zero, List.set_cons_succ]
      clear q_6
      refine' wpAnyH_take (i := 7) (oi := ⟨_, _, _, _, _, _⟩) (v := _) rfl (by kernel_rfl) (by kernel_rfl) (by kernel_rfl) (fun _ _ _ h => h) (Or.inl ⟨by rfl, ?hy7⟩) hS ?rest7
      case hy7 => (intro wz hSw; (try dsimp only at hSw); go_simp; try with_reducible rfl)
      try simp only [Act.put, List.setIfInBounds_toArray, List.set_cons_zero, List.set_cons_succ]
      refine' wpAnyH_take (i := 8) (oi := ⟨_, _, _, _, _, _⟩) (v := _) rfl (by kernel_rfl) (by kernel_rfl) (by kernel_rfl) (fun _ _ _ h => h) (Or.inl ⟨by rfl, ?hy8⟩) hS ?rest8
      case hy8 => (intro wz hSw; (try dsimp only at hSw); go_simp; try with_reducible rfl)
      try simp only [Act.put, List.setIfInBounds_toArray, List.set_cons_zero, List.set_cons_succ]
      refine' wpAnyH_take (i := 9) (oi := ⟨_, _, _, _, _, _⟩) (v := _) rfl (by kernel_rfl) (by kernel_rfl) (by kernel_rfl) (fun _ _ _ h => h) (Or.inl ⟨by rfl, ?hy9⟩) hS ?rest9
      case hy9 => (intro wz hSw; (try dsimp only at hSw); go_simp; try with_reducible rfl)
      try simp only [Act.put, List.setIfInBounds_toArray, List.set_cons_zero, List.set_cons_succ]
      refine' wpAnyH_take (i := 10) (oi := ⟨_, _, _, _, _, _⟩) (v := _) rfl (by kernel_rfl) (by kernel_rfl) (by kernel_rfl) (fun _ _ _ h => h) (Or.inl ⟨by rfl, ?hy10⟩) hS ?rest10
      case hy10 => (intro wz hSw; (try dsimp only at hSw); go_simp; try with_reducible rfl)
      try simp only [Act.put, List.setIfInBounds_toArray, List.set_cons_zero, List.set_cons_succ]
      refine wpAnyH_ready (rs := [11]) (by kernel_rfl) (by simp) (AllReadyH.cons rfl (fun K hK => ?_) AllReadyH.nil)
      go_simp
      go_at_call 15
      refine (href.out _).mono ?_
      rintro e w_11 ⟨v_f3, rfl, f3, q_11⟩
      replace f2 := Lib.hid (bytes_below f2.out q_11)
      replace f1 := Lib.hid (bytes_below f1.out q_11)
      replace t := Lib.hid (bytes_below t.out q_11)
      replace u := Lib.hid (bytes_below u.out q_11)
      replace hri := Lib.hid (ri_below hri.out q_11)
      replace x := Lib.hid (sr_below x.out q_11)
      replace y := Lib.hid (sr_below y.out q_11)
      replace bq := Lib.hid (below_on bq.out q_11)
      replace f3 := Lib.hid f3
      clear hS
      go_wp2_with fail
      refine hK.out _ _ (⟨run_toStr (v_f2) P w_11 f2.out, run_toStr (v_f1) P w_11 f1.out, run_toStr (.slice p_t T.length c_t) T w_11 t.out, run_toStr (.slice p_u T.length c_u) T w_11 u.out⟩) (fun _ => wpAnyH_mono (S' := fun w' => (convert 23 9 (v_f3)).run Try.prog w' = .ok (.string ⟨R0.toArray⟩) w' ∧ (convert 23 9 (v_f2)).run Try.prog w' = .ok (.string ⟨P.toArray⟩) w' ∧ (convert 23 9 (v_f1)).run Try.prog w' = .ok (.string ⟨P.toArray⟩) w' ∧ (convert 23 9 (.slice p_t T.length c_t)).run Try.prog w' = .ok (.string ⟨T.toArray⟩) w' ∧ (convert 23 9 (.slice p_u T.length c_u)).run Try.prog w' = .ok (.string ⟨T.toArray⟩) w') (fun _ h => h.2) _ _ _ _ ?_)
      have hS : (fun w' => (convert 23 9 (v_f3)).run Try.prog w' = .ok (.string ⟨R0.toArray⟩) w' ∧ (convert 23 9 (v_f2)).run Try.prog w' = .ok (.string ⟨P.toArray⟩) w' ∧ (convert 23 9 (v_f1)).run Try.prog w' = .ok (.string ⟨P.toArray⟩) w' ∧ (convert 23 9 (.slice p_t T.length c_t)).run Try.prog w' = .ok (.string ⟨T.toArray⟩) w' ∧ (convert 23 9 (.slice p_u T.length c_u)).run Try.prog w' = .ok (.string ⟨T.toArray⟩) w') w_11 := ⟨run_toStr (v_f3) R0 w_11 f3.out, run_toStr (v_f2) P w_11 f2.out, run_toStr (v_f1) P w_11 f1.out, run_toStr (.slice p_t T.length c_t) T w_11 t.out, run_toStr (.slice p_u T.length c_u) T w_11 u.out⟩
      clear hK K
      try simp only [Act.put, List.setIfInBounds_toArray, List.set_cons_zero, List.set_cons_succ]
      clear q_11
      refine' wpAnyH_take (i := 12) (oi := ⟨_, _, _, _, _, _⟩) (v := _) rfl (by kernel_rfl) (by kernel_rfl) (by kernel_rfl) (fun _ _ _ h => h) (Or.inl ⟨by rfl, ?hy12⟩) hS ?rest12
      case hy12 => (intro wz hSw; (try dsimp only at hSw); go_simp; try with_reducible rfl)
      try simp only [Act.put, List.setIfInBounds_toArray, List.set_cons_zero, List.set_cons_succ]
      refine wpAnyH_ready (rs := [13]) (by kernel_rfl) (by simp) (AllReadyH.cons rfl (fun K hK => ?_) AllReadyH.nil)
      go_simp
      go_at_call 16
      refine (rref.out _).mono ?_
      rintro e w_13 ⟨v_f4, rfl, f4, q_13⟩
      replace f3 := Lib.hid (bytes_below f3.out q_13)
      replace f2 := Lib.hid (bytes_below f2.out q_13)
      replace f1 := Lib.hid (bytes_below f1.out q_13)
      replace t := Lib.hid (bytes_below t.out q_13)
      replace u := Lib.hid (bytes_below u.out q_13)
      replace hri := Lib.hid (ri_below hri.out q_13)
      replace x := Lib.hid (sr_below x.out q_13)
      replace y := Lib.hid (sr_below y.out q_13)
      replace bq := Lib.hid (below_on bq.out q_13)
      replace f4 := Lib.hid f4
      clear hS
      go_wp2_with fail
      refine hK.out _ _ (⟨run_toStr (v_f3) R0 w_13 f3.out, run_toStr (v_f2) P w_13 f2.out, run_toStr (v_f1) P w_13 f1.out, run_toStr (.slice p_t T.length c_t) T w_13 t.out, run_toStr (.slice p_u T.length c_u) T w_13 u.out⟩) (fun _ => wpAnyH_mono (S' := fun w' => (convert 23 9 (v_f4)).run Try.prog w' = .ok (.string ⟨R0.toArray⟩) w' ∧ (convert 23 9 (v_f3)).run Try.prog w' = .ok (.string ⟨R0.toArray⟩) w' ∧ (convert 23 9 (v_f2)).run Try.prog w' = .ok (.string ⟨P.toArray⟩) w' ∧ (convert 23 9 (v_f1)).run Try.prog w' = .ok (.string ⟨P.toArray⟩) w' ∧ (convert 23 9 (.slice p_t T.length c_t)).run Try.prog w' = .ok (.string ⟨T.toArray⟩) w' ∧ (convert 23 9 (.slice p_u T.length c_u)).run Try.prog w' = .ok (.string ⟨T.toArray⟩) w') (fun _ h => h.2) _ _ _ _ ?_)
      have hS : (fun w' => (convert 23 9 (v_f4)).run Try.prog w' = .ok (.string ⟨R0.toArray⟩) w' ∧ (convert 23 9 (v_f3)).run Try.prog w' = .ok (.string ⟨R0.toArray⟩) w' ∧ (convert 23 9 (v_f2)).run Try.prog w' = .ok (.string ⟨P.toArray⟩) w' ∧ (convert 23 9 (v_f1)).run Try.prog w' = .ok (.string ⟨P.toArray⟩) w' ∧ (convert 23 9 (.slice p_t T.length c_t)).run Try.prog w' = .ok (.string ⟨T.toArray⟩) w' ∧ (convert 23 9 (.slice p_u T.length c_u)).run Try.prog w' = .ok (.string ⟨T.toArray⟩) w') w_13 := ⟨run_toStr (v_f4) R0 w_13 f4.out, run_toStr (v_f3) R0 w_13 f3.out, run_toStr (v_f2) P w_13 f2.out, run_toStr (v_f1) P w_13 f1.out, run_toStr (.slice p_t T.length c_t) T w_13 t.out, run_toStr (.slice p_u T.length c_u) T w_13 u.out⟩
      clear hK K
      try simp only [Act.put, List.setIfInBounds_toArray, List.set_cons_zero, List.set_cons_succ]
      clear q_13
      refine' wpAnyH_take (i := 14) (oi := ⟨_, _, _, _, _, _⟩) (v := _) rfl (by kernel_rfl) (by kernel_rfl) (by kernel_rfl) (fun _ _ _ h => h) (Or.inl ⟨by rfl, ?hy14⟩) hS ?rest14
      case hy14 => (intro wz hSw; (try dsimp only at hSw); go_simp; try with_reducible rfl)
      try simp only [Act.put, List.setIfInBounds_toArray, List.set_cons_zero, List.set_cons_succ]
      refine' wpAnyH_take (i := 15) (oi := ⟨_, _, _, _, _, _⟩) (v := _) rfl (by kernel_rfl) (by kernel_rfl) (by kernel_rfl) (fun _ _ _ h => h) (Or.inl ⟨by rfl, ?hy15⟩) hS ?rest15
      case hy15 => (intro wz hSw; (try dsimp only at hSw); go_simp; try with_reducible rfl)
      try simp only [Act.put, List.setIfInBounds_toArray, List.set_cons_zero, List.set_cons_succ]
      refine' wpAnyH_take (i := 16) (oi := ⟨_, _, _, _, _, _⟩) (v := _) rfl (by kernel_rfl) (by kernel_rfl) (by kernel_rfl) (fun _ _ _ h => h) (Or.inl ⟨by rfl, ?hy16⟩) hS ?rest16
      case hy16 => (intro wz hSw; (try dsimp only at hSw); go_simp; try with_reducible rfl)
      try simp only [Act.put, List.setIfInBounds_toArray, List.set_cons_zero, List.set_cons_succ]
      refine' wpAnyH_take (i := 17) (oi := ⟨_, _, _, _, _, _⟩) (v := _) rfl (by kernel_rfl) (by kernel_rfl) (by kernel_rfl) (fun _ _ _ h => h) (Or.inl ⟨by rfl, ?hy17⟩) hS ?rest17
      case hy17 => (intro wz hSw; (try dsimp only at hSw); go_simp; try with_reducible rfl)
      try simp only [Act.put, List.setIfInBounds_toArray, List.set_cons_zero, List.set_cons_succ]
      refine' wpAnyH_take (i := 18) (oi := ⟨_, _, _, _, _, _⟩) (v := _) rfl (by kernel_rfl) (by kernel_rfl) (by kernel_rfl) (fun _ _ _ h => h) (Or.inl ⟨by rfl, ?hy18⟩) hS ?rest18
      case hy18 => (intro wz hSw; (try dsimp only at hSw); go_simp; try with_reducible rfl)
      try simp only [Act.put, List.setIfInBounds_toArray, List.set_cons_zero, List.set_cons_succ]
      refine' wpAnyH_take (i := 19) (oi := ⟨_, _, _, _, _, _⟩) (v := _) rfl (by kernel_rfl) (by kernel_rfl) (by kernel_rfl) (fun _ _ _ h => h) (Or.inl ⟨by rfl, ?hy19⟩) hS ?rest19
      case hy19 => (intro wz hSw; (try dsimp only at hSw); go_simp; try with_reducible rfl)
      try simp only [Act.put, List.setIfInBounds_toArray, List.set_cons_zero, List.set_cons_succ]
      refine' wpAnyH_take (i := 20) (oi := ⟨_, _, _, _, _, _⟩) (v := _) rfl (by kernel_rfl) (by kernel_rfl) (by kernel_rfl) (fun _ _ _ h => h) (Or.inl ⟨by rfl, ?hy20⟩) hS ?rest20
      case hy20 => (intro wz hSw; (try dsimp only at hSw); go_simp; try with_reducible rfl)
      try simp only [Act.put, List.setIfInBounds_toArray, List.set_cons_zero, List.set_cons_succ]
      refine' wpAnyH_take (i := 21) (oi := ⟨_, _, _, _, _, _⟩) (v := _) rfl (by kernel_rfl) (by kernel_rfl) (by kernel_rfl) (fun _ _ _ h => h) (Or.inl ⟨by rfl, ?hy21⟩) hS ?rest21
      case hy21 => (intro wz hSw; (try dsimp only at hSw); go_simp; try with_reducible rfl)
      try simp only [Act.put, List.setIfInBounds_toArray, List.set_cons_zero, List.set_cons_succ]
      refine' wpAnyH_take (i := 22) (oi := ⟨_, _, _, _, _, _⟩) (v := _) rfl (by kernel_rfl) (by kernel_rfl) (by kernel_rfl) (fun _ _ _ h => h) (Or.inl ⟨by rfl, ?hy22⟩) hS ?rest22
      case hy22 => (intro wz hSw; (try dsimp only at hSw); go_simp; try with_reducible rfl)
      try simp only [Act.put, List.setIfInBounds_toArray, List.set_cons_zero, List.set_cons_succ]
      refine' wpAnyH_take (i := 23) (oi := ⟨_, _, _, _, _, _⟩) (v := _) rfl (by kernel_rfl) (by kernel_rfl) (by kernel_rfl) (fun _ _ _ h => h) (Or.inl ⟨by rfl, ?hy23⟩) hS ?rest23
      case hy23 => (intro wz hSw; (try dsimp only at hSw); go_simp; try with_reducible rfl)
      try simp only [Act.put, List.setIfInBounds_toArray, List.set_cons_zero, List.set_cons_succ]
      refine' wpAnyH_take (i := 24) (oi := ⟨_, _, _, _, _, _⟩) (v := _) rfl (by kernel_rfl) (by kernel_rfl) (by kernel_rfl) (fun _ _ _ h => h) (Or.inl ⟨by rfl, ?hy24⟩) hS ?rest24
      case hy24 => (intro wz hSw; (try dsimp only at hSw); go_simp; try with_reducible rfl)
      try simp only [Act.put, List.setIfInBounds_toArray, List.set_cons_zero, List.set_cons_succ]
      refine' wpAnyH_take (i := 25) (oi := ⟨_, _, _, _, _, _⟩) (v := _) rfl (by kernel_rfl) (by kernel_rfl) (by kernel_rfl) (fun _ _ _ h => h) (Or.inl ⟨by rfl, ?hy25⟩) hS ?rest25
      case hy25 => (intro wz hSw; (try dsimp only at hSw); go_simp; try with_reducible rfl)
      try simp only [Act.put, List.setIfInBounds_toArray, List.set_cons_zero, List.set_cons_succ]
      refine' wpAnyH_take (i := 26) (oi := ⟨_, _, _, _, _, _⟩) (v := _) rfl (by kernel_rfl) (by kernel_rfl) (by kernel_rfl) (fun _ _ _ h => h) (Or.inl ⟨by rfl, ?hy26⟩) hS ?rest26
      case hy26 => (intro wz hSw; (try dsimp only at hSw); go_simp; try with_reducible rfl)
      try simp only [Act.put, List.setIfInBounds_toArray, List.set_cons_zero, List.set_cons_succ]
      refine' wpAnyH_take (i := 27) (oi := ⟨_, _, _, _, _, _⟩) (v := _) rfl (by kernel_rfl) (by kernel_rfl) (by kernel_rfl) (fun _ _ _ h => h) (Or.inl ⟨by rfl, ?hy27⟩) hS ?rest27
      case hy27 => (intro wz hSw; (try dsimp only at hSw); go_simp; try with_reducible rfl)
      try simp only [Act.put, List.setIfInBounds_toArray, List.set_cons_zero, List.set_cons_succ]
      refine' wpAnyH_take (i := 28) (oi := ⟨_, _, _, _, _, _⟩) (v := _) rfl (by kernel_rfl) (by kernel_rfl) (by kernel_rfl) (fun _ _ _ h => h) (Or.inl ⟨by rfl, ?hy28⟩) hS ?rest28
      case hy28 => (intro wz hSw; (try dsimp only at hSw); go_simp; try with_reducible rfl)
      try simp only [Act.put, List.setIfInBounds_toArray, List.set_cons_zero, List.set_cons_succ]
      refine' wpAnyH_take (i := 29) (oi := ⟨_, _, _, _, _, _⟩) (v := _) rfl (by kernel_rfl) (by kernel_rfl) (by kernel_rfl) (fun _ _ _ h => h) (Or.inl ⟨by rfl, ?hy29⟩) hS ?rest29
      case hy29 => (intro wz hSw; (try dsimp only at hSw); go_simp; try with_reducible rfl)
      try simp only [Act.put, List.setIfInBounds_toArray, List.set_cons_zero, List.set_cons_succ]
      refine' wpAnyH_take (i := 30) (oi := ⟨_, _, _, _, _, _⟩) (v := _) rfl (by kernel_rfl) (by kernel_rfl) (by kernel_rfl) (fun _ _ _ h => h) (Or.inl ⟨by rfl, ?hy30⟩) hS ?rest30
      case hy30 => (intro wz hSw; (try dsimp only at hSw); go_simp; try with_reducible rfl)
      try simp only [Act.put, List.setIfInBounds_toArray, List.set_cons_zero, List.set_cons_succ]
      refine' wpAnyH_take (i := 31) (oi := ⟨_, _, _, _, _, _⟩) (v := _) rfl (by kernel_rfl) (by kernel_rfl) (by kernel_rfl) (fun _ _ _ h => h) (Or.inl ⟨by rfl, ?hy31⟩) hS ?rest31
      case hy31 => (intro wz hSw; (try dsimp only at hSw); go_simp; try with_reducible rfl)
      try simp only [Act.put, List.setIfInBounds_toArray, List.set_cons_zero, List.set_cons_succ]
      refine' wpAnyH_take (i := 32) (oi := ⟨_, _, _, _, _, _⟩) (v := _) rfl (by kernel_rfl) (by kernel_rfl) (by kernel_rfl) (fun _ _ _ h => h) (Or.inl ⟨by rfl, ?hy32⟩) hS ?rest32
      case hy32 => (intro wz hSw; (try dsimp only at hSw); go_simp; try with_reducible rfl)
      try simp only [Act.put, List.setIfInBounds_toArray, List.set_cons_zero, List.set_cons_succ]
      refine' wpAnyH_take (i := 33) (oi := ⟨_, _, _, _, _, _⟩) (v := _) rfl (by kernel_rfl) (by kernel_rfl) (by kernel_rfl) (fun _ _ _ h => h) (Or.inl ⟨by rfl, ?hy33⟩) hS ?rest33
      case hy33 => (intro wz hSw; (try dsimp only at hSw); go_simp; try with_reducible rfl)
      try simp only [Act.put, List.setIfInBounds_toArray, List.set_cons_zero, List.set_cons_succ]
      refine' wpAnyH_take (i := 34) (oi := ⟨_, _, _, _, _, _⟩) (v := _) rfl (by kernel_rfl) (by kernel_rfl) (by kernel_rfl) (fun _ _ _ h => h) (Or.inl ⟨by rfl, ?hy34⟩) hS ?rest34
      case hy34 => (intro wz hSw; (try dsimp only at hSw); go_simp; try with_reducible rfl)
      try simp only [Act.put, List.setIfInBounds_toArray, List.set_cons_zero, List.set_cons_succ]
      refine' wpAnyH_take (i := 35) (oi := ⟨_, _, _, _, _, _⟩) (v := _) rfl (by kernel_rfl) (by kernel_rfl) (by kernel_rfl) (fun _ _ _ h => h) (Or.inl ⟨by rfl, ?hy35⟩) hS ?rest35
      case hy35 => (intro wz hSw; (try dsimp only at hSw); go_simp; try with_reducible rfl)
      try simp only [Act.put, List.setIfInBounds_toArray, List.set_cons_zero, List.set_cons_succ]
      refine' wpAnyH_take (i := 36) (oi := ⟨_, _, _, _, _, _⟩) (v := _) rfl (by kernel_rfl) (by kernel_rfl) (by kernel_rfl) (fun _ _ _ h => h) (Or.inl ⟨by rfl, ?hy36⟩) hS ?rest36
      case hy36 => (intro wz hSw; (try dsimp only at hSw); go_simp; try with_reducible rfl)
      try simp only [Act.put, List.setIfInBounds_toArray, List.set_cons_zero, List.set_cons_succ]
      refine wpAnyH_ready (rs := [37]) (by kernel_rfl) (by simp) (AllReadyH.cons rfl (fun K hK => ?_) AllReadyH.nil)
      go_simp
      go_at_call 17
      refine (texts_self _ _ TS _ (by omega) x.out y.out).mono ?_
      rintro e w_37 ⟨rfl, q_37⟩
      replace f4 := Lib.hid (bytes_below f4.out q_37)
      replace f3 := Lib.hid (bytes_below f3.out q_37)
      replace f2 := Lib.hid (bytes_below f2.out q_37)
      replace f1 := Lib.hid (bytes_below f1.out q_37)
      replace t := Lib.hid (bytes_below t.out q_37)
      replace u := Lib.hid (bytes_below u.out q_37)
      replace hri := Lib.hid (ri_below hri.out q_37)
      replace x := Lib.hid (sr_below x.out q_37)
      replace y := Lib.hid (sr_below y.out q_37)
      replace bq := Lib.hid (below_on bq.out q_37)
      go_wp2_with fail
      refine hK.out _ _ (⟨run_toStr (v_f4) R0 w_37 f4.out, run_toStr (v_f3) R0 w_37 f3.out, run_toStr (v_f2) P w_37 f2.out, run_toStr (v_f1) P w_37 f1.out, run_toStr (.slice p_t T.length c_t) T w_37 t.out, run_toStr (.slice p_u T.length c_u) T w_37 u.out⟩) (fun hSn => ?_)
      clear hS
      have hS := hSn
      clear hSn
      clear hK K
      try simp only [Act.put, List.setIfInBounds_toArray, List.set_cons_zero, List.set_cons_succ]
      clear q_37
      refine' wpAnyH_take (i := 38) (oi := ⟨_, _, _, _, _, _⟩) (v := _) rfl (by kernel_rfl) (by kernel_rfl) (by kernel_rfl) (fun _ _ _ h => h) (Or.inl ⟨by rfl, ?hy38⟩) hS ?rest38
      case hy38 => (intro wz hSw; (try dsimp only at hSw); go_simp; try with_reducible rfl)
      try simp only [Act.put, List.setIfInBounds_toArray, List.set_cons_zero, List.set_cons_succ]
      refine' wpAnyH_take (i := 39) (oi := ⟨_, _, _, _, _, _⟩) (v := _) rfl (by kernel_rfl) (by kernel_rfl) (by kernel_rfl) (fun _ _ _ h => h) (Or.inl ⟨by rfl, ?hy39⟩) hS ?rest39
      case hy39 => (intro wz hSw; (try dsimp only at hSw); go_simp; try with_reducible rfl)
      try simp only [Act.put, List.setIfInBounds_toArray, List.set_cons_zero, List.set_cons_succ]
      refine' wpAnyH_take (i := 40) (oi := ⟨_, _, _, _, _, _⟩) (v := _) rfl (by kernel_rfl) (by kernel_rfl) (by kernel_rfl) (fun _ _ _ h => h) (Or.inl ⟨by rfl, ?hy40⟩) hS ?rest40
      case hy40 => (intro wz hSw; (try dsimp only at hSw); go_simp; try with_reducible rfl)
      try simp only [Act.put, List.setIfInBounds_toArray, List.set_cons_zero, List.set_cons_succ]
      refine' wpAnyH_take (i := 41) (oi := ⟨_, _, _, _, _, _⟩) (v := _) rfl (by kernel_rfl) (by kernel_rfl) (by kernel_rfl) (fun _ _ _ h => h) (Or.inl ⟨by rfl, ?hy41⟩) hS ?rest41
      case hy41 => (intro wz hSw; (try dsimp only at hSw); go_simp; try with_reducible rfl)
      try simp only [Act.put, List.setIfInBounds_toArray, List.set_cons_zero, List.set_cons_succ]
      refine' wpAnyH_take (i := 42) (oi := ⟨_, _, _, _, _, _⟩) (v := _) rfl (by kernel_rfl) (by kernel_rfl) (by kernel_rfl) (fun _ _ _ h => h) (Or.inl ⟨by rfl, ?hy42⟩) hS ?rest42
      case hy42 => (intro wz hSw; (try dsimp only at hSw); go_simp; try with_reducible rfl)
      try simp only [Act.put, List.setIfInBounds_toArray, List.set_cons_zero, List.set_cons_succ]
      refine' wpAnyH_take (i := 43) (oi := ⟨_, _, _, _, _, _⟩) (v := _) rfl (by kernel_rfl) (by kernel_rfl) (by kernel_rfl) (fun _ _ _ h => h) (Or.inl ⟨by rfl, ?hy43⟩) hS ?rest43
      case hy43 => (intro wz hSw; (try dsimp only at hSw); go_simp; try with_reducible rfl)
      try simp only [Act.put, List.setIfInBounds_toArray, List.set_cons_zero, List.set_cons_succ]
      refine' wpAnyH_take (i := 44) (oi := ⟨_, _, _, _, _, _⟩) (v := _) rfl (by kernel_rfl) (by kernel_rfl) (by kernel_rfl) (fun _ _ _ h => h) (Or.inl ⟨by rfl, ?hy44⟩) hS ?rest44
      case hy44 => (intro wz hSw; (try dsimp only at hSw); go_simp; try with_reducible rfl)
      try simp only [Act.put, List.setIfInBounds_toArray, List.set_cons_zero, List.set_cons_succ]
      refine' wpAnyH_take (i := 45) (oi := ⟨_, _, _, _, _, _⟩) (v := _) rfl (by kernel_rfl) (by kernel_rfl) (by kernel_rfl) (fun _ _ _ h => h) (Or.inl ⟨by rfl, ?hy45⟩) hS ?rest45
      case hy45 => (intro wz hSw; (try dsimp only at hSw); go_simp; try with_reducible rfl)
      try simp only [Act.put, List.setIfInBounds_toArray, List.set_cons_zero, List.set_cons_succ]
      refine' wpAnyH_take (i := 46) (oi := ⟨_, _, _, _, _, _⟩) (v := _) rfl (by kernel_rfl) (by kernel_rfl) (by kernel_rfl) (fun _ _ _ h => h) (Or.inl ⟨by rfl, ?hy46⟩) hS ?rest46
      case hy46 => (intro wz hSw; (try dsimp only at hSw); go_simp; try with_reducible rfl)
      try simp only [Act.put, List.setIfInBounds_toArray, List.set_cons_zero, List.set_cons_succ]
      refine' wpAnyH_take (i := 47) (oi := ⟨_, _, _, _, _, _⟩) (v := _) rfl (by kernel_rfl) (by kernel_rfl) (by kernel_rfl) (fun _ _ _ h => h) (Or.inl ⟨by rfl, ?hy47⟩) hS ?rest47
      case hy47 => (intro wz hSw; (try dsimp only at hSw); go_simp; try with_reducible rfl)
      try simp only [Act.put, List.setIfInBounds_toArray, List.set_cons_zero, List.set_cons_succ]
      refine' wpAnyH_take (i := 48) (oi := ⟨_, _, _, _, _, _⟩) (v := _) rfl (by kernel_rfl) (by kernel_rfl) (by kernel_rfl) (fun _ _ _ h => h) (Or.inl ⟨by rfl, ?hy48⟩) hS ?rest48
      case hy48 => (intro wz hSw; (try dsimp only at hSw); go_simp; try with_reducible rfl)
      try simp only [Act.put, List.setIfInBounds_toArray, List.set_cons_zero, List.set_cons_succ]
      refine' wpAnyH_take (i := 49) (oi := ⟨_, _, _, _, _, _⟩) (v := _) rfl (by kernel_rfl) (by kernel_rfl) (by kernel_rfl) (fun _ _ _ h => h) (Or.inl ⟨by rfl, ?hy49⟩) hS ?rest49
      case hy49 => (intro wz hSw; (try dsimp only at hSw); go_simp; try with_reducible rfl)
      try simp only [Act.put, List.setIfInBounds_toArray, List.set_cons_zero, List.set_cons_succ]
      refine wpAnyH_done (by kernel_rfl) ?_ _
      clear hS
      go_simp
      go_wp2_with fail
      go_ret
      exact ⟨rfl, bq.out⟩
    · have hm' : decide (400 < b.length) = true := decide_eq_true (by omega)
      have hm2 : (400 : Int) < (b.length : Int) := by omega
      clear hP hT hA hR
      go_enter Try.func3, Try.ntmps3
      go_wp2_with fail
      refine (hawake.out _).mono ?_
      rintro e w1 ⟨rfl, q1⟩
      go_wp2_with fail
      go_ret
      exact ⟨rfl, q1⟩
  · have hl' : decide (200 < c.length) = true := decide_eq_true (by omega)
    have hl2 : (200 : Int) < (c.length : Int) := by omega
    clear hP hT hA hR
    go_enter Try.func3, Try.ntmps3
    go_wp2_with fail
    refine (hawake.out _).mono ?_
    rintro e w1 ⟨rfl, q1⟩
    go_wp2_with fail
    go_ret
    exact ⟨rfl, q1⟩

end Go.Proofs.Ytconccgfhdmafaa
