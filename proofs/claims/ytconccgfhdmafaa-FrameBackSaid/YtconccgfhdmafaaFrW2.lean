/- Layer 13: the walk of FrameBack. -/
import Derived.Test.YtconccgfhdmafaaFrW0
import Derived.Test.YtconccgfhdmafaaDcT
import Derived.Test.YtconccgfhdmafaaBasP
import Derived.Deep.RegionHeld
import Derived.Deep.DeepCutAuto
import Derived.OrdersHeld
namespace Go.Proofs.Ytconccgfhdmafaa
set_option linter.unusedSimpArgs false
set_option linter.unusedVariables false
open Go.RowKit Go.Lib

theorem ri_drewB {w : World} {v : Value} {l : List Int} (h : RI w v l) : RI w.drew v l := h
theorem bytes_drewB {w : World} {v : Value} {l : List UInt8} (h : RBytes w v l) : RBytes w.drew v l := h


theorem bytes_some {w : World} {p : Option Addr} {n c : Nat} {l : List UInt8} (h : RBytes w (.slice p n c) l) (h0 : 0 < l.length) : ∃ a, p = some a := by
  obtain ⟨b, off, rfl, _⟩ := bytes_at h h0
  exact ⟨_, rfl⟩

theorem Frm.cut_all {c : List Int} (h : c ≠ []) (hl : c.length ≤ 1000000) : takeF ((putF c).take ((putF c).length - 1)) = ([], 0, 1) := by
  have h1 := take_cut h hl
  have h2 := take_err (b := (putF c).take ((putF c).length - 1)) (by rw [h1]; simp)
  rw [h2, h1]

theorem Frm.put_two {c : List Int} (h : c ≠ []) (hl : c.length ≤ 1000) : 2 ≤ (putF c).length ∧ (putF c).length ≤ 4004 := by
  obtain ⟨h1, h2⟩ := putF_some h (by omega)
  rw [h1]
  unfold frameOf
  have h3 := text_pos h
  have h4 := Var.put_len_pos (Dec.textL c).length
  have h5 := Var.put_len_le (Dec.textL c).length h2
  have h6 := Dec.textL_len c
  simp only [List.length_append]
  omega

set_option maxHeartbeats 12800000 in
set_option maxRecDepth 100000 in
theorem frameBack_walk (hP : PutC13) (hT : TakeC13) (hR : RefC13) (v : Value) (c : List Int) (vb : Value) (m : List UInt8) (w : World) (hv : RI w v c ∧ WfI c) (hvb : RBytes w vb m) :
    Calls Try.prog 4 #[v, vb] w fun e w' => e = .returned (.bool true) ∧ Below w.heap.size w w' := by
  obtain ⟨i0, hi, hz0, hz1, hz2⟩ := info_parts info_byte
  obtain ⟨hri, _⟩ := hv
  obtain ⟨p, cap, rfl⟩ := ri_form hri
  obtain ⟨pb, cb, rfl⟩ := bytes_form hvb
  have hawake := Lib.hid (awake13 hP hT hR)
  replace hri := Lib.hid hri
  have hrb := Lib.hid hvb
  clear hvb
  by_cases hl : c.length ≤ 200
  · have hl' : decide (200 < c.length) = false := decide_eq_false (by omega)
    have hl2 : ¬ (200 : Int) < (c.length : Int) := by omega
    by_cases hm : m.length ≤ 100
    · have hm' : decide (100 < m.length) = false := decide_eq_false (by omega)
      have hm2 : ¬ (100 : Int) < (m.length : Int) := by omega
      have hput := fun W h => hP (.slice p c.length cap) c W (by omega) h
      unfold ToldB at hput
      by_cases h0 : c.length = 0
      · have hc0 : ((c.length : Int) == 0) = true := beq_iff_eq.2 (by omega)
        have hp0 : Frm.putF c = [] := by unfold Frm.putF; rw [if_pos (.inl (List.eq_nil_of_length_eq_zero h0))]
        rw [hp0] at hput
        obtain ⟨F, hF, hF0⟩ : ∃ F : List UInt8, [] = F ∧ F.length = 0 := ⟨[], rfl, rfl⟩
        rw [hF] at hput
        have hF1 : ((F.length : Int) == 0) = true := beq_iff_eq.2 (by omega)
        replace hput := Lib.hid hput
        replace hF0 := Lib.hid hF0
        replace h0 := Lib.hid h0
        clear hF hp0 hP hT hR
        go_enter Try.func4, Try.ntmps4
        go_wp2_with fail
        refine (hawake.out _).mono ?_
        rintro e w1 ⟨rfl, q1⟩
        replace hri := Lib.hid (ri_below hri.out q1)
        replace hrb := Lib.hid (bytes_below hrb.out q1)
        have bq := Lib.hid q1
        clear q1
        go_wp2_with fail
        refine (hput.out _ hri.out).mono ?_
        rintro e w2 ⟨v_f, rfl, f, q2⟩
        obtain ⟨p_f, c_f, rfl⟩ := bytes_form f
        replace f := Lib.hid f
        replace hri := Lib.hid (ri_below hri.out q2)
        replace hrb := Lib.hid (bytes_below hrb.out q2)
        replace bq := Lib.hid (below_on bq.out q2)
        clear q2
        go_wp2_with fail
        go_ret
        exact ⟨rfl, bq.out⟩
      · have hc0 : ((c.length : Int) == 0) = false := beq_eq_false_iff_ne.2 (by omega)
        have hne : c ≠ [] := fun e => h0 (by rw [e]; rfl)
        obtain ⟨hn1, hn2⟩ := Frm.put_two hne (by omega)
        have h1 := Frm.take_put hne (by omega) m
        have h2 := Frm.cut_all hne (by omega)
        have htext := fun W h => Tx.text_any (.slice p c.length cap) c W (by omega) h
        have htake0 := fun V W h => hT V (Frm.putF c ++ m) W (by simp; omega) h
        have hcut0 := fun V W h => hT V ((Frm.putF c).take ((Frm.putF c).length - 1)) W (by simp; omega) h
        rw [h1] at htake0
        rw [h2] at hcut0
        unfold Took at htake0 hcut0
        dsimp only at htake0 hcut0
        obtain ⟨F, hF⟩ : ∃ F, Frm.putF c = F := ⟨_, rfl⟩
        rw [hF] at hput htake0 hcut0 hn1 hn2
        obtain ⟨T, hTT⟩ : ∃ T, Dec.textL c = T := ⟨_, rfl⟩
        rw [hTT] at htake0 htext
        have htake := Lib.hid (show ∀ V W, RBytes W V (F ++ m) → Calls Try.prog 9 #[V] W fun e w' => ∃ v, e = .returned (.tuple #[v, .int .i64 (F.length : Int), .int .i64 0]) ∧ RBytes w' v T ∧ Below W.heap.size W w' from fun V W h => htake0 V W h)
        have hcut := Lib.hid hcut0
        obtain ⟨A, hAA⟩ : ∃ A, [] ++ F ++ m = A := ⟨_, rfl⟩
        have hFm : F ++ m = A := by rw [← hAA]; rfl
        rw [hFm] at htake
        have hn3 : decide (F.length < 2) = false := decide_eq_false (by omega)
        have hn4 : (1 : Int) ≤ (F.length : Int) := by omega
        have hn5 : ((F.length : Int) == (F.length : Int)) = true := by simp
        have hn6 : ¬ (F.length : Int) < 2 := by omega
        replace hput := Lib.hid hput
        replace htext := Lib.hid htext
        replace hF := Lib.hid hAA
        clear h1 h2 hTT htake0 hcut0 hAA hFm hne h0 hP hT hR
        go_enter Try.func4, Try.ntmps4
        go_wp2_with fail
        refine (hawake.out _).mono ?_
        rintro e w1 ⟨rfl, q1⟩
        replace hri := Lib.hid (ri_below hri.out q1)
        replace hrb := Lib.hid (bytes_below hrb.out q1)
        have bq := Lib.hid q1
        clear q1
        go_wp2_with fail
        refine (hput.out _ hri.out).mono ?_
        rintro e w2 ⟨v_f, rfl, f, q2⟩
        obtain ⟨p_f, c_f, rfl⟩ := bytes_form f
        replace f := Lib.hid f
        replace hri := Lib.hid (ri_below hri.out q2)
        replace hrb := Lib.hid (bytes_below hrb.out q2)
        replace bq := Lib.hid (below_on bq.out q2)
        clear q2
        have e1 := Lib.hid (ownB_made w2.heap.size w2 w2.heap.size rfl (Nat.le_refl _))
        have g1 := Lib.hid (below_new w2 (.cells #[] 5))
        have s1 := Lib.hid (bytes_below f.out g1.out)
        go_upto_region 9 with (fail)
        go_upto_region 10 with (at_builtin; refine wpList_append_src rfl _ _ 23 rfl w2.heap.size 5 i0 (.int .u8 0) 1 Try.underlying23 hi hz0 hz1 hz2 rfl _ _ _ rfl e1.out _ _ rfl (bytes_src s1.out) (bytes_oneCell _) (by simp only [List.length_append, List.length_take, List.length_drop, List.length_cons, List.length_nil, List.length_singleton, Lib.byteCells_length]; unfold maxLen; omega) (by simp only [List.length_append, List.length_take, List.length_drop, List.length_cons, List.length_nil, List.length_singleton, Lib.byteCells_length]; omega) g1.out.size ?_; intro v3 w3 ho3 hg3; have o3 := Lib.hid (ownB_of_row (l := [] ++ F) ho3 (by (try simp [Lib.byteCells]); try omega) (by simp [Lib.byteCells])); have b3 := Lib.hid (below_row g1.out hg3 g1.out.size e1.out (Nat.le_refl _)); clear ho3 hg3)
        have s3 := Lib.hid (bytes_below hrb.out b3.out)
        go_upto_region 11 with (at_builtin; refine wpList_append_src rfl _ _ 23 rfl w2.heap.size 5 i0 (.int .u8 0) 1 Try.underlying23 hi hz0 hz1 hz2 rfl _ _ _ rfl o3.out _ _ rfl (bytes_src s3.out) (bytes_oneCell _) (by simp only [List.length_append, List.length_take, List.length_drop, List.length_cons, List.length_nil, List.length_singleton, Lib.byteCells_length]; unfold maxLen; omega) (by simp only [List.length_append, List.length_take, List.length_drop, List.length_cons, List.length_nil, List.length_singleton, Lib.byteCells_length]; omega) b3.out.size ?_; intro v4 w4 ho4 hg4; have o4 := Lib.hid (ownB_of_row (l := ([] ++ F) ++ m) ho4 (by (try simp [Lib.byteCells]); try omega) (by simp [Lib.byteCells])); have b4 := Lib.hid (below_row b3.out hg4 b3.out.size o3.out (Nat.le_refl _)); clear ho4 hg4)
        rw [hF.out] at o4
        have rall := Lib.hid (bytes_of_own o4.out)
        obtain ⟨pa, ca, rfl⟩ := bytes_form rall.out
        replace f := Lib.hid (bytes_below f.out b4.out)
        replace hri := Lib.hid (ri_below hri.out b4.out)
        replace bq := Lib.hid (below_on bq.out b4.out)
        clear e1 g1 s1 o3 b3 s3 o4 b4 hrb
        go_wp2_with fail
        refine (htake.out _ _ rall.out).mono ?_
        rintro e w5 ⟨v_t, rfl, t, q5⟩
        obtain ⟨p_t, c_t, rfl⟩ := bytes_form t
        replace t := Lib.hid t
        replace hri := Lib.hid (ri_below hri.out q5)
        replace f := Lib.hid (bytes_below f.out q5)
        replace bq := Lib.hid (below_on bq.out q5)
        clear q5
        clear rall
        obtain ⟨af, rfl⟩ : ∃ a, p_f = some a := bytes_some f.out (by omega)
        have rcut := Lib.hid (fun (W : World) (h : RBytes W (.slice (some af) F.length c_f) F) => bytes_take h (F.length - 1) (by omega) (show F.length - 1 ≤ c_f by have := bytes_cap f.out; omega))
        have hcf := Lib.hid (bytes_cap f.out)
        have hcf2 := bytes_cap f.out
        go_wp2_with fail
        refine (hcut.out _ _ (rcut.out _ f.out)).mono ?_
        rintro e w6 ⟨v_u, rfl, u, q6⟩
        obtain ⟨p_u, c_u, rfl⟩ := bytes_form u
        replace u := Lib.hid u
        replace hri := Lib.hid (ri_below hri.out q6)
        replace f := Lib.hid (bytes_below f.out q6)
        replace t := Lib.hid (bytes_below t.out q6)
        replace bq := Lib.hid (below_on bq.out q6)
        clear q6
        clear f u rcut
        go_upto_region 13 with (fail)
        replace t := Lib.hid (bytes_drewB t.out)
        replace hri := Lib.hid (ri_drewB hri.out)
        replace bq := Lib.hid bq.out.drew
        refine wp_region_held_drew (S := fun w' => (convert 23 9 (.slice p_t T.length c_t)).run Try.prog w' = .ok (.string ⟨T.toArray⟩) w') (by kernel_rfl) (run_toStr (.slice p_t T.length c_t) T w6.drew t.out) (fun hS => ?_)
        refine' wpAnyH_take (i := 0) (oi := ⟨_, _, _, _, _, _⟩) (v := _) rfl (by kernel_rfl) (by kernel_rfl) (by kernel_rfl) (fun _ _ _ h => h) (Or.inl ⟨by rfl, ?hy0⟩) hS ?rest0
        case hy0 => (intro wz hSw; (try dsimp only at hSw); go_simp; try with_reducible rfl)
        try simp only [Act.put, List.setIfInBounds_toArray, List.set_cons_zero, List.set_cons_succ]
        refine' wpAnyH_take (i := 1) (oi := ⟨_, _, _, _, _, _⟩) (v := _) rfl (by kernel_rfl) (by kernel_rfl) (by kernel_rfl) (fun _ _ _ h => h) (Or.inl ⟨by rfl, ?hy1⟩) hS ?rest1
        case hy1 => (intro wz hSw; (try dsimp only at hSw); go_simp; try with_reducible rfl)
        try simp only [Act.put, List.setIfInBounds_toArray, List.set_cons_zero, List.set_cons_succ]
        refine' wpAnyH_take (i := 2) (oi := ⟨_, _, _, _, _, _⟩) (v := _) rfl (by kernel_rfl) (by kernel_rfl) (by kernel_rfl) (fun _ _ _ h => h) (Or.inl ⟨by rfl, ?hy2⟩) hS ?rest2
        case hy2 => (intro wz hSw; (try dsimp only at hSw); go_simp; try with_reducible rfl)
        try simp only [Act.put, List.setIfInBounds_toArray, List.set_cons_zero, List.set_cons_succ]
        refine' wpAnyH_take (i := 3) (oi := ⟨_, _, _, _, _, _⟩) (v := _) rfl (by kernel_rfl) (by kernel_rfl) (by kernel_rfl) (fun _ _ _ h => h) (Or.inl ⟨by rfl, ?hy3⟩) hS ?rest3
        case hy3 => (intro wz hSw; (try dsimp only at hSw); go_simp; try with_reducible rfl)
        try simp only [Act.put, List.setIfInBounds_toArray, List.set_cons_zero, List.set_cons_succ]
        refine' wpAnyH_take (i := 4) (oi := ⟨_, _, _, _, _, _⟩) (v := _) rfl (by kernel_rfl) (by kernel_rfl) (by kernel_rfl) (fun _ _ _ h => h) (Or.inl ⟨by rfl, ?hy4⟩) hS ?rest4
        case hy4 => (intro wz hSw; (try dsimp only at hSw); go_simp; try with_reducible rfl)
        try simp only [Act.put, List.setIfInBounds_toArray, List.set_cons_zero, List.set_cons_succ]
        refine' wpAnyH_take (i := 5) (oi := ⟨_, _, _, _, _, _⟩) (v := _) rfl (by kernel_rfl) (by kernel_rfl) (by kernel_rfl) (fun _ _ _ h => h) (Or.inl ⟨by rfl, ?hy5⟩) hS ?rest5
        case hy5 => (intro wz hSw; (try dsimp only at hSw); go_simp; try with_reducible rfl)
        try simp only [Act.put, List.setIfInBounds_toArray, List.set_cons_zero, List.set_cons_succ]
        refine' wpAnyH_take (i := 6) (oi := ⟨_, _, _, _, _, _⟩) (v := _) rfl (by kernel_rfl) (by kernel_rfl) (by kernel_rfl) (fun _ _ _ h => h) (Or.inl ⟨by rfl, ?hy6⟩) hS ?rest6
        case hy6 => (intro wz hSw; (try dsimp only at hSw); go_simp; try with_reducible rfl)
        try simp only [Act.put, List.setIfInBounds_toArray, List.set_cons_zero, List.set_cons_succ]
        refine' wpAnyH_take (i := 7) (oi := ⟨_, _, _, _, _, _⟩) (v := _) rfl (by kernel_rfl) (by kernel_rfl) (by kernel_rfl) (fun _ _ _ h => h) (Or.inl ⟨by rfl, ?hy7⟩) hS ?rest7
        case hy7 => (intro wz hSw; (try dsimp only at hSw); go_simp; try with_reducible rfl)
        try simp only [Act.put, List.setIfInBounds_toArray, List.set_cons_zero, List.set_cons_succ]
        refine' wpAnyH_take (i := 8) (oi := ⟨_, _, _, _, _, _⟩) (v := _) rfl (by kernel_rfl) (by kernel_rfl) (by kernel_rfl) (fun _ _ _ h => h) (Or.inl ⟨by rfl, ?hy8⟩) hS ?rest8
        case hy8 => (intro wz hSw; (try dsimp only at hSw); go_simp; try with_reducible rfl)
        try simp only [Act.put, List.setIfInBounds_toArray, List.set_cons_zero, List.set_cons_succ]
        refine' wpAnyH_take (i := 9) (oi := ⟨_, _, _, _, _, _⟩) (v := _) rfl (by kernel_rfl) (by kernel_rfl) (by kernel_rfl) (fun _ _ _ h => h) (Or.inl ⟨by rfl, ?hy9⟩) hS ?rest9
        case hy9 => (intro wz hSw; (try dsimp only at hSw); go_simp; try with_reducible rfl)
        try simp only [Act.put, List.setIfInBounds_toArray, List.set_cons_zero, List.set_cons_succ]
        refine' wpAnyH_take (i := 10) (oi := ⟨_, _, _, _, _, _⟩) (v := _) rfl (by kernel_rfl) (by kernel_rfl) (by kernel_rfl) (fun _ _ _ h => h) (Or.inl ⟨by rfl, ?hy10⟩) hS ?rest10
        case hy10 => (intro wz hSw; (try dsimp only at hSw); go_simp; try with_reducible rfl)
        try simp only [Act.put, List.setIfInBounds_toArray, List.set_cons_zero, List.set_cons_succ]
        refine' wpAnyH_take (i := 11) (oi := ⟨_, _, _, _, _, _⟩) (v := _) rfl (by kernel_rfl) (by kernel_rfl) (by kernel_rfl) (fun _ _ _ h => h) (Or.inl ⟨by rfl, ?hy11⟩) hS ?rest11
        case hy11 => (intro wz hSw; (try dsimp only at hSw); go_simp; try with_reducible rfl)
        try simp only [Act.put, List.setIfInBounds_toArray, List.set_cons_zero, List.set_cons_succ]
        refine' wpAnyH_take (i := 12) (oi := ⟨_, _, _, _, _, _⟩) (v := _) rfl (by kernel_rfl) (by kernel_rfl) (by kernel_rfl) (fun _ _ _ h => h) (Or.inl ⟨by rfl, ?hy12⟩) hS ?rest12
        case hy12 => (intro wz hSw; (try dsimp only at hSw); go_simp; try with_reducible rfl)
        try simp only [Act.put, List.setIfInBounds_toArray, List.set_cons_zero, List.set_cons_succ]
        refine' wpAnyH_take (i := 13) (oi := ⟨_, _, _, _, _, _⟩) (v := _) rfl (by kernel_rfl) (by kernel_rfl) (by kernel_rfl) (fun _ _ _ h => h) (Or.inl ⟨by rfl, ?hy13⟩) hS ?rest13
        case hy13 => (intro wz hSw; (try dsimp only at hSw); go_simp; try with_reducible rfl)
        try simp only [Act.put, List.setIfInBounds_toArray, List.set_cons_zero, List.set_cons_succ]
        refine' wpAnyH_take (i := 14) (oi := ⟨_, _, _, _, _, _⟩) (v := _) rfl (by kernel_rfl) (by kernel_rfl) (by kernel_rfl) (fun _ _ _ h => h) (Or.inl ⟨by rfl, ?hy14⟩) hS ?rest14
        case hy14 => (intro wz hSw; (try dsimp only at hSw); go_simp; try with_reducible rfl)
        try simp only [Act.put, List.setIfInBounds_toArray, List.set_cons_zero, List.set_cons_succ]
        refine wpAnyH_ready (rs := [15]) (by kernel_rfl) (by simp) (AllReadyH.cons rfl (fun K hK => ?_) AllReadyH.nil)
        go_simp
        go_at_call 18
        refine (htext.out _ hri.out).mono ?_
        rintro e w_15 ⟨rfl, q_15⟩
        replace t := Lib.hid (bytes_below t.out q_15)
        replace hri := Lib.hid (ri_below hri.out q_15)
        replace bq := Lib.hid (below_on bq.out q_15)
        go_wp2_with fail
        refine hK.out _ _ (run_toStr (.slice p_t T.length c_t) T w_15 t.out) (fun hSn => ?_)
        clear hS
        have hS := hSn
        clear hSn
        clear hK K
        try simp only [Act.put, List.setIfInBounds_toArray, List.set_cons_zero, List.set_cons_succ]
        clear q_15
        refine' wpAnyH_take (i := 16) (oi := ⟨_, _, _, _, _, _⟩) (v := _) rfl (by kernel_rfl) (by kernel_rfl) (by kernel_rfl) (fun _ _ _ h => h) (Or.inl ⟨by rfl, ?hy16⟩) hS ?rest16
        case hy16 => (intro wz hSw; (try dsimp only at hSw); go_simp; try with_reducible rfl)
        try simp only [Act.put, List.setIfInBounds_toArray, List.set_cons_zero, List.set_cons_succ]
        refine' wpAnyH_take (i := 17) (oi := ⟨_, _, _, _, _, _⟩) (v := _) rfl (by kernel_rfl) (by kernel_rfl) (by kernel_rfl) (fun _ _ _ h => h) (Or.inl ⟨by rfl, ?hy17⟩) hS ?rest17
        case hy17 => (intro wz hSw; (try dsimp only at hSw); go_simp; try with_reducible rfl)
        try simp only [Act.put, List.setIfInBounds_toArray, List.set_cons_zero, List.set_cons_succ]
        refine' wpAnyH_take (i := 18) (oi := ⟨_, _, _, _, _, _⟩) (v := _) rfl (by kernel_rfl) (by kernel_rfl) (by kernel_rfl) (fun _ _ _ h => h) (Or.inl ⟨by rfl, ?hy18⟩) hS ?rest18
        case hy18 => (intro wz hSw; (try dsimp only at hSw); go_simp; try with_reducible rfl)
        try simp only [Act.put, List.setIfInBounds_toArray, List.set_cons_zero, List.set_cons_succ]
        refine' wpAnyH_take (i := 19) (oi := ⟨_, _, _, _, _, _⟩) (v := _) rfl (by kernel_rfl) (by kernel_rfl) (by kernel_rfl) (fun _ _ _ h => h) (Or.inl ⟨by rfl, ?hy19⟩) hS ?rest19
        case hy19 => (intro wz hSw; (try dsimp only at hSw); go_simp; try with_reducible rfl)
        try simp only [Act.put, List.setIfInBounds_toArray, List.set_cons_zero, List.set_cons_succ]
        refine' wpAnyH_take (i := 20) (oi := ⟨_, _, _, _, _, _⟩) (v := _) rfl (by kernel_rfl) (by kernel_rfl) (by kernel_rfl) (fun _ _ _ h => h) (Or.inl ⟨by rfl, ?hy20⟩) hS ?rest20
        case hy20 => (intro wz hSw; (try dsimp only at hSw); go_simp; try with_reducible rfl)
        try simp only [Act.put, List.setIfInBounds_toArray, List.set_cons_zero, List.set_cons_succ]
        refine' wpAnyH_take (i := 21) (oi := ⟨_, _, _, _, _, _⟩) (v := _) rfl (by kernel_rfl) (by kernel_rfl) (by kernel_rfl) (fun _ _ _ h => h) (Or.inl ⟨by rfl, ?hy21⟩) hS ?rest21
        case hy21 => (intro wz hSw; (try dsimp only at hSw); go_simp; try with_reducible rfl)
        try simp only [Act.put, List.setIfInBounds_toArray, List.set_cons_zero, List.set_cons_succ]
        refine' wpAnyH_take (i := 22) (oi := ⟨_, _, _, _, _, _⟩) (v := _) rfl (by kernel_rfl) (by kernel_rfl) (by kernel_rfl) (fun _ _ _ h => h) (Or.inl ⟨by rfl, ?hy22⟩) hS ?rest22
        case hy22 => (intro wz hSw; (try dsimp only at hSw); go_simp; try with_reducible rfl)
        try simp only [Act.put, List.setIfInBounds_toArray, List.set_cons_zero, List.set_cons_succ]
        refine wpAnyH_done (by kernel_rfl) ?_ _
        clear hS
        go_simp
        go_wp2_with fail
        go_ret
        exact ⟨rfl, bq.out⟩
    · have hm' : decide (100 < m.length) = true := decide_eq_true (by omega)
      have hm2 : (100 : Int) < (m.length : Int) := by omega
      clear hP hT hR
      go_enter Try.func4, Try.ntmps4
      go_wp2_with fail
      refine (hawake.out _).mono ?_
      rintro e w1 ⟨rfl, q1⟩
      go_wp2_with fail
      go_ret
      exact ⟨rfl, q1⟩
  · have hl' : decide (200 < c.length) = true := decide_eq_true (by omega)
    have hl2 : (200 : Int) < (c.length : Int) := by omega
    clear hP hT hR
    go_enter Try.func4, Try.ntmps4
    go_wp2_with fail
    refine (hawake.out _).mono ?_
    rintro e w1 ⟨rfl, q1⟩
    go_wp2_with fail
    go_ret
    exact ⟨rfl, q1⟩

end Go.Proofs.Ytconccgfhdmafaa
