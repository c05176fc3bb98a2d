/- Layer 14: the walk of FlowApart. -/
import Derived.Test.YtnlnkjaapdefiaaGreatDoorFwW0
import Derived.Test.YtnlnkjaapdefiaaGreatDoorMatQ
import Derived.Test.YtnlnkjaapdefiaaGreatDoorBasP
import Derived.Deep.RegionHeld
import Derived.Deep.DeepCutAuto
import Derived.OrdersHeld
namespace Go.Proofs.YtnlnkjaapdefiaaGreatDoor
set_option linter.unusedSimpArgs false
set_option linter.unusedVariables false
open Go.RowKit Go.Lib
theorem bytes_drew14 {w : World} {v : Value} {l : List UInt8} (h : RBytes w v l) : RBytes w.drew v l := h
theorem bytes_ext {x y : ByteArray} (h : x.data.toList = y.data.toList) : x = y := by
  cases x
  cases y
  simpa [Array.toList_inj] using h
theorem tabs_drew14 {w : World} (h : Tabs w) : Tabs w.drew := tabs_next h (Below.refl _ _).drew
set_option maxHeartbeats 6400000 in
set_option maxRecDepth 100000 in
theorem flowApart_walk (hV : ValuesC14) (hC : ClustersC14) (hF0 : FC14) (va : Value) (a : List UInt8) (vb : Value) (b : List UInt8) (w : World) (hT : Tabs w) (hva : RBytes w va a) (hvb : RBytes w vb b) :
    Calls Tryz.prog 7 #[va, vb] w fun e w' => e = .returned (.bool true) ∧ Below w.heap.size w w' := by
  obtain ⟨i0, hi, hz0, hz1, hz2⟩ := info_parts info_byte
  obtain ⟨pa, ca, rfl⟩ := bytes_form hva
  obtain ⟨pb, cb, rfl⟩ := bytes_form hvb
  have hawake := Lib.hid (fun W h => awake14 hV hC hF0 W h)
  replace hT := Lib.hid hT
  have hra := Lib.hid hva
  have hrb := Lib.hid hvb
  clear hva hvb
  by_cases hl : a.length ≤ 100
  · have hl' : decide (100 < a.length) = false := decide_eq_false (by omega)
    have hl2 : ¬ (100 : Int) < (a.length : Int) := by omega
    by_cases hm : b.length ≤ 100
    · have hm' : decide (100 < b.length) = false := decide_eq_false (by omega)
      have hm2 : ¬ (100 : Int) < (b.length : Int) := by omega
      have hap := Flw.frame_apart a b
      obtain ⟨A, hAA⟩ : ∃ A, (([] ++ a) ++ [1]) ++ b = A := ⟨_, rfl⟩
      have hab : a ++ 1 :: b = A := by rw [← hAA]; simp
      rw [hab] at hap
      have hAl : A.length ≤ 201 := by rw [← hAA]; simp; omega
      have hF1 := fun V W t h => hF0 V A W t (Flw.small_201 hAl) h
      have hFa0 := fun W t h => hF0 (.slice pa a.length ca) a W t (Flw.small_of (by omega)) h
      have hFb0 := fun W t h => hF0 (.slice pb b.length cb) b W t (Flw.small_of (by omega)) h
      obtain ⟨X, hX⟩ : ∃ X, Flw.frameI A = X := ⟨_, rfl⟩
      obtain ⟨Y, hY⟩ : ∃ Y, Flw.frameI a = Y := ⟨_, rfl⟩
      obtain ⟨Z, hZ⟩ : ∃ Z, Flw.frameI b = Z := ⟨_, rfl⟩
      rw [hX] at hF1 hap
      rw [hY] at hFa0 hap
      rw [hZ] at hFb0 hap
      unfold ToldB at hF1 hFa0 hFb0
      have hYl := Flw.frame_few (b := a) (Flw.small_of (by omega)).b4
      have hZl := Flw.frame_few (b := b) (Flw.small_of (by omega)).b4
      rw [hY] at hYl
      rw [hZ] at hZl
      have heq := Lib.hid (show ((⟨Y.toArray⟩ : ByteArray) ++ ⟨#[1, 1]⟩ ++ ⟨Z.toArray⟩) = ⟨X.toArray⟩ from by rw [hap]; apply bytes_ext; simp)
      have hsY : (⟨Y.toArray⟩ : ByteArray).size ≤ 6600000 := by simpa [ByteArray.size] using hYl
      have hsZ : (⟨Z.toArray⟩ : ByteArray).size ≤ 6600000 := by simpa [ByteArray.size] using hZl
      have hn1 : ¬ 9223372036854775807 < Y.length + 2 := by omega
      have hn2 : ¬ 9223372036854775807 < Y.length + 2 + Z.length := by omega
      have hF := Lib.hid hF1
      have hFa := Lib.hid hFa0
      have hFb := Lib.hid hFb0
      have hA := Lib.hid hAA
      clear hap hAA hab hF1 hFa0 hFb0 hX hY hZ hYl hZl hsY hsZ hV hC hF0 hAl
      go_enter Tryz.func7, Tryz.ntmps7
      go_wp2_with fail
      refine (hawake.out _ hT.out).mono ?_
      rintro e w1 ⟨rfl, q1⟩
      replace hra := Lib.hid (bytes_below hra.out q1)
      replace hrb := Lib.hid (bytes_below hrb.out q1)
      have bq := Lib.hid q1
      replace hT := Lib.hid (tabs_next hT.out q1)
      clear q1
      have e1 := Lib.hid (ownB_made w1.heap.size w1 w1.heap.size rfl (Nat.le_refl _))
      have g1 := Lib.hid (below_new w1 (.cells #[] 5))
      have s1 := Lib.hid (bytes_below hra.out g1.out)
      go_upto_region 4 with (fail)
      go_upto_region 5 with (at_builtin; refine wpList_append_src rfl _ _ 22 rfl w1.heap.size 5 i0 (.int .u8 0) 1 Tryz.underlying22 hi hz0 hz1 hz2 rfl _ _ _ rfl e1.out _ _ rfl (bytes_src s1.out) (bytes_oneCell _) (by simp only [List.length_append, List.length_take, List.length_drop, List.length_cons, List.length_nil, List.length_singleton, Lib.byteCells_length]; unfold maxLen; omega) (by simp only [List.length_append, List.length_take, List.length_drop, List.length_cons, List.length_nil, List.length_singleton, Lib.byteCells_length]; omega) g1.out.size ?_; intro v2 w2 ho2 hg2; have o2 := Lib.hid (ownB_of_row (l := [] ++ a) ho2 (by (try simp [Lib.byteCells]); try omega) (by simp [Lib.byteCells])); have b2 := Lib.hid (below_row g1.out hg2 g1.out.size e1.out (Nat.le_refl _)); clear ho2 hg2)
      have o2a := Lib.hid (ownB_alloc o2.out (.cells #[.int .u8 1] 5))
      have b2a := Lib.hid (b2.out.alloc b2.out.size (.cells #[.int .u8 1] 5))
      have s2 := Lib.hid (bytes_lit w2 [1] #[.int .u8 1] 1 (0, 0) rfl rfl)
      clear e1 g1 s1 o2
      go_upto_region 6 with (at_builtin; refine wpList_append_src rfl _ _ 22 rfl w1.heap.size 5 i0 (.int .u8 0) 1 Tryz.underlying22 hi hz0 hz1 hz2 rfl _ _ _ rfl o2a.out _ _ rfl (bytes_src s2.out) (bytes_oneCell _) (by simp only [List.length_append, List.length_take, List.length_drop, List.length_cons, List.length_nil, List.length_singleton, Lib.byteCells_length]; unfold maxLen; omega) (by simp only [List.length_append, List.length_take, List.length_drop, List.length_cons, List.length_nil, List.length_singleton, Lib.byteCells_length]; omega) b2a.out.size ?_; intro v3 w3 ho3 hg3; have o3 := Lib.hid (ownB_of_row (l := ([] ++ a) ++ [1]) ho3 (by (try simp [Lib.byteCells]); try omega) (by simp [Lib.byteCells])); have b3 := Lib.hid (below_row b2a.out hg3 b2a.out.size o2a.out (Nat.le_refl _)); clear ho3 hg3)
      have s3 := Lib.hid (bytes_below hrb.out b3.out)
      go_upto_region 7 with (at_builtin; refine wpList_append_src rfl _ _ 22 rfl w1.heap.size 5 i0 (.int .u8 0) 1 Tryz.underlying22 hi hz0 hz1 hz2 rfl _ _ _ rfl o3.out _ _ rfl (bytes_src s3.out) (bytes_oneCell _) (by simp only [List.length_append, List.length_take, List.length_drop, List.length_cons, List.length_nil, List.length_singleton, Lib.byteCells_length]; unfold maxLen; omega) (by simp only [List.length_append, List.length_take, List.length_drop, List.length_cons, List.length_nil, List.length_singleton, Lib.byteCells_length]; omega) b3.out.size ?_; intro v4 w4 ho4 hg4; have o4 := Lib.hid (ownB_of_row (l := (([] ++ a) ++ [1]) ++ b) ho4 (by (try simp [Lib.byteCells]); try omega) (by simp [Lib.byteCells])); have b4 := Lib.hid (below_row b3.out hg4 b3.out.size o3.out (Nat.le_refl _)); clear ho4 hg4)
      rw [hA.out] at o4
      have f := Lib.hid (bytes_of_own o4.out)
      obtain ⟨pf, cf, rfl⟩ := bytes_form f.out
      replace hra := Lib.hid (bytes_drew14 (bytes_below hra.out b4.out))
      replace hrb := Lib.hid (bytes_drew14 (bytes_below hrb.out b4.out))
      replace bq := Lib.hid (below_on bq.out b4.out).drew
      replace hT := Lib.hid (tabs_drew14 (tabs_next hT.out b4.out))
      replace f := Lib.hid (bytes_drew14 f.out)
      clear b2 o2a b2a s2 o3 b3 s3 o4 b4
      refine wp_region_held_drew (S := fun _ => True) (by kernel_rfl) (trivial) (fun hS => ?_)
      refine' wpAnyH_take (i := 0) (oi := ⟨_, _, _, _, _, _⟩) (v := _) rfl (by kernel_rfl) (by kernel_rfl) (by kernel_rfl) (fun _ _ _ h => h) (Or.inl ⟨by rfl, ?hy0⟩) hS ?rest0
      case hy0 => (intro wz hSw; (try dsimp only at hSw); go_simp; try with_reducible rfl)
      try simp only [Act.put, List.setIfInBounds_toArray, List.set_cons_zero, List.set_cons_succ]
      refine' wpAnyH_take (i := 1) (oi := ⟨_, _, _, _, _, _⟩) (v := _) rfl (by kernel_rfl) (by kernel_rfl) (by kernel_rfl) (fun _ _ _ h => h) (Or.inl ⟨by rfl, ?hy1⟩) hS ?rest1
      case hy1 => (intro wz hSw; (try dsimp only at hSw); go_simp; try with_reducible rfl)
      try simp only [Act.put, List.setIfInBounds_toArray, List.set_cons_zero, List.set_cons_succ]
      refine' wpAnyH_take (i := 2) (oi := ⟨_, _, _, _, _, _⟩) (v := _) rfl (by kernel_rfl) (by kernel_rfl) (by kernel_rfl) (fun _ _ _ h => h) (Or.inl ⟨by rfl, ?hy2⟩) hS ?rest2
      case hy2 => (intro wz hSw; (try dsimp only at hSw); go_simp; try with_reducible rfl)
      try simp only [Act.put, List.setIfInBounds_toArray, List.set_cons_zero, List.set_cons_succ]
      refine' wpAnyH_take (i := 5) (oi := ⟨_, _, _, _, _, _⟩) (v := _) rfl (by kernel_rfl) (by kernel_rfl) (by kernel_rfl) (fun _ _ _ h => h) (Or.inl ⟨by rfl, ?hy5⟩) hS ?rest5
      case hy5 => (intro wz hSw; (try dsimp only at hSw); go_simp; try with_reducible rfl)
      try simp only [Act.put, List.setIfInBounds_toArray, List.set_cons_zero, List.set_cons_succ]
      refine' wpAnyH_take (i := 9) (oi := ⟨_, _, _, _, _, _⟩) (v := _) rfl (by kernel_rfl) (by kernel_rfl) (by kernel_rfl) (fun _ _ _ h => h) (Or.inl ⟨by rfl, ?hy9⟩) hS ?rest9
      case hy9 => (intro wz hSw; (try dsimp only at hSw); go_simp; try with_reducible rfl)
      try simp only [Act.put, List.setIfInBounds_toArray, List.set_cons_zero, List.set_cons_succ]
      refine wpAnyH_ready (rs := [3]) (by kernel_rfl) (by simp) (AllReadyH.cons rfl (fun K hK => ?_) AllReadyH.nil)
      go_simp
      go_at_call 15
      refine (hF.out _ _ hT.out f.out).mono ?_
      rintro e w_3 ⟨v_f1, rfl, f1, q_3⟩
      replace hT := Lib.hid (tabs_next hT.out q_3)
      replace f := Lib.hid (bytes_below f.out q_3)
      replace hra := Lib.hid (bytes_below hra.out q_3)
      replace hrb := Lib.hid (bytes_below hrb.out q_3)
      replace bq := Lib.hid (below_on bq.out q_3)
      replace f1 := Lib.hid f1
      clear hS
      go_wp2_with fail
      refine hK.out _ _ (trivial) (fun _ => wpAnyH_mono (S' := fun w' => (convert 22 9 (v_f1)).run Tryz.prog w' = .ok (.string ⟨X.toArray⟩) w') (fun _ _ => trivial) _ _ _ _ ?_)
      have hS : (fun w' => (convert 22 9 (v_f1)).run Tryz.prog w' = .ok (.string ⟨X.toArray⟩) w') w_3 := run_toStr (v_f1) X w_3 f1.out
      clear hK K
      try simp only [Act.put, List.setIfInBounds_toArray, List.set_cons_zero, List.set_cons_succ]
      clear q_3
      refine' wpAnyH_take (i := 4) (oi := ⟨_, _, _, _, _, _⟩) (v := _) rfl (by kernel_rfl) (by kernel_rfl) (by kernel_rfl) (fun _ _ _ h => h) (Or.inl ⟨by rfl, ?hy4⟩) hS ?rest4
      case hy4 => (intro wz hSw; (try dsimp only at hSw); go_simp; try with_reducible rfl)
      try simp only [Act.put, List.setIfInBounds_toArray, List.set_cons_zero, List.set_cons_succ]
      refine wpAnyH_ready (rs := [6]) (by kernel_rfl) (by simp) (AllReadyH.cons rfl (fun K hK => ?_) AllReadyH.nil)
      go_simp
      go_at_call 15
      refine (hFa.out _ hT.out hra.out).mono ?_
      rintro e w_6 ⟨v_f2, rfl, f2, q_6⟩
      replace f1 := Lib.hid (bytes_below f1.out q_6)
      replace hT := Lib.hid (tabs_next hT.out q_6)
      replace hra := Lib.hid (bytes_below hra.out q_6)
      replace hrb := Lib.hid (bytes_below hrb.out q_6)
      replace bq := Lib.hid (below_on bq.out q_6)
      replace f2 := Lib.hid f2
      clear hS
      go_wp2_with fail
      refine hK.out _ _ (run_toStr (v_f1) X w_6 f1.out) (fun _ => wpAnyH_mono (S' := fun w' => (convert 22 9 (v_f2)).run Tryz.prog w' = .ok (.string ⟨Y.toArray⟩) w' ∧ (convert 22 9 (v_f1)).run Tryz.prog w' = .ok (.string ⟨X.toArray⟩) w') (fun _ h => h.2) _ _ _ _ ?_)
      have hS : (fun w' => (convert 22 9 (v_f2)).run Tryz.prog w' = .ok (.string ⟨Y.toArray⟩) w' ∧ (convert 22 9 (v_f1)).run Tryz.prog w' = .ok (.string ⟨X.toArray⟩) w') w_6 := ⟨run_toStr (v_f2) Y w_6 f2.out, run_toStr (v_f1) X w_6 f1.out⟩
      clear hK K
      try simp only [Act.put, List.setIfInBounds_toArray, List.set_cons_zero, List.set_cons_succ]
      clear q_6
      refine' wpAnyH_take (i := 7) (oi := ⟨_, _, _, _, _, _⟩) (v := _) rfl (by kernel_rfl) (by kernel_rfl) (by kernel_rfl) (fun _ _ _ h => h) (Or.inl ⟨by rfl, ?hy7⟩) hS ?rest7
      case hy7 => (intro wz hSw; (try dsimp only at hSw); go_simp; try with_reducible rfl)
      try simp only [Act.put, List.setIfInBounds_toArray, List.set_cons_zero, List.set_cons_succ]
      refine' wpAnyH_take (i := 8) (oi := ⟨_, _, _, _, _, _⟩) (v := _) rfl (by kernel_rfl) (by kernel_rfl) (by kernel_rfl) (fun _ _ _ h => h) (Or.inl ⟨by rfl, ?hy8⟩) hS ?rest8
      case hy8 => (intro wz hSw; (try dsimp only at hSw); go_simp; try with_reducible rfl)
      try simp only [Act.put, List.setIfInBounds_toArray, List.set_cons_zero, List.set_cons_succ]
      refine wpAnyH_ready (rs := [10]) (by kernel_rfl) (by simp) (AllReadyH.cons rfl (fun K hK => ?_) AllReadyH.nil)
      go_simp
      go_at_call 15
      refine (hFb.out _ hT.out hrb.out).mono ?_
      rintro e w_10 ⟨v_f3, rfl, f3, q_10⟩
      replace f2 := Lib.hid (bytes_below f2.out q_10)
      replace f1 := Lib.hid (bytes_below f1.out q_10)
      replace hT := Lib.hid (tabs_next hT.out q_10)
      replace hra := Lib.hid (bytes_below hra.out q_10)
      replace hrb := Lib.hid (bytes_below hrb.out q_10)
      replace bq := Lib.hid (below_on bq.out q_10)
      replace f3 := Lib.hid f3
      clear hS
      go_wp2_with fail
      refine hK.out _ _ (⟨run_toStr (v_f2) Y w_10 f2.out, run_toStr (v_f1) X w_10 f1.out⟩) (fun _ => wpAnyH_mono (S' := fun w' => (convert 22 9 (v_f3)).run Tryz.prog w' = .ok (.string ⟨Z.toArray⟩) w' ∧ (convert 22 9 (v_f2)).run Tryz.prog w' = .ok (.string ⟨Y.toArray⟩) w' ∧ (convert 22 9 (v_f1)).run Tryz.prog w' = .ok (.string ⟨X.toArray⟩) w') (fun _ h => h.2) _ _ _ _ ?_)
      have hS : (fun w' => (convert 22 9 (v_f3)).run Tryz.prog w' = .ok (.string ⟨Z.toArray⟩) w' ∧ (convert 22 9 (v_f2)).run Tryz.prog w' = .ok (.string ⟨Y.toArray⟩) w' ∧ (convert 22 9 (v_f1)).run Tryz.prog w' = .ok (.string ⟨X.toArray⟩) w') w_10 := ⟨run_toStr (v_f3) Z w_10 f3.out, run_toStr (v_f2) Y w_10 f2.out, run_toStr (v_f1) X w_10 f1.out⟩
      clear hK K
      try simp only [Act.put, List.setIfInBounds_toArray, List.set_cons_zero, List.set_cons_succ]
      clear q_10
      refine' wpAnyH_take (i := 11) (oi := ⟨_, _, _, _, _, _⟩) (v := _) rfl (by kernel_rfl) (by kernel_rfl) (by kernel_rfl) (fun _ _ _ h => h) (Or.inl ⟨by rfl, ?hy11⟩) hS ?rest11
      case hy11 => (intro wz hSw; (try dsimp only at hSw); go_simp; try with_reducible rfl)
      try simp only [Act.put, List.setIfInBounds_toArray, List.set_cons_zero, List.set_cons_succ]
      refine' wpAnyH_take (i := 12) (oi := ⟨_, _, _, _, _, _⟩) (v := _) rfl (by kernel_rfl) (by kernel_rfl) (by kernel_rfl) (fun _ _ _ h => h) (Or.inl ⟨by rfl, ?hy12⟩) hS ?rest12
      case hy12 => (intro wz hSw; (try dsimp only at hSw); go_simp; try with_reducible rfl)
      try simp only [Act.put, List.setIfInBounds_toArray, List.set_cons_zero, List.set_cons_succ]
      try rw [heq.out]
      refine' wpAnyH_take (i := 13) (oi := ⟨_, _, _, _, _, _⟩) (v := _) rfl (by kernel_rfl) (by kernel_rfl) (by kernel_rfl) (fun _ _ _ h => h) (Or.inl ⟨by rfl, ?hy13⟩) hS ?rest13
      case hy13 => (intro wz hSw; (try dsimp only at hSw); go_simp; try with_reducible rfl)
      try simp only [Act.put, List.setIfInBounds_toArray, List.set_cons_zero, List.set_cons_succ]
      refine' wpAnyH_take (i := 14) (oi := ⟨_, _, _, _, _, _⟩) (v := _) rfl (by kernel_rfl) (by kernel_rfl) (by kernel_rfl) (fun _ _ _ h => h) (Or.inl ⟨by rfl, ?hy14⟩) hS ?rest14
      case hy14 => (intro wz hSw; (try dsimp only at hSw); go_simp; try with_reducible rfl)
      try simp only [Act.put, List.setIfInBounds_toArray, List.set_cons_zero, List.set_cons_succ]
      refine' wpAnyH_take (i := 15) (oi := ⟨_, _, _, _, _, _⟩) (v := _) rfl (by kernel_rfl) (by kernel_rfl) (by kernel_rfl) (fun _ _ _ h => h) (Or.inl ⟨by rfl, ?hy15⟩) hS ?rest15
      case hy15 => (intro wz hSw; (try dsimp only at hSw); go_simp; try with_reducible rfl)
      try simp only [Act.put, List.setIfInBounds_toArray, List.set_cons_zero, List.set_cons_succ]
      refine wpAnyH_done (by kernel_rfl) ?_ _
      clear hS
      go_simp
      go_wp2_with fail
      go_ret
      exact ⟨rfl, bq.out⟩
    · have hm' : decide (100 < b.length) = true := decide_eq_true (by omega)
      have hm2 : (100 : Int) < (b.length : Int) := by omega
      clear hV hC hF0
      go_enter Tryz.func7, Tryz.ntmps7
      go_wp2_with fail
      refine (hawake.out _ hT.out).mono ?_
      rintro e w1 ⟨rfl, q1⟩
      go_wp2_with fail
      go_ret
      exact ⟨rfl, q1⟩
  · have hl' : decide (100 < a.length) = true := decide_eq_true (by omega)
    have hl2 : (100 : Int) < (a.length : Int) := by omega
    clear hV hC hF0
    go_enter Tryz.func7, Tryz.ntmps7
    go_wp2_with fail
    refine (hawake.out _ hT.out).mono ?_
    rintro e w1 ⟨rfl, q1⟩
    go_wp2_with fail
    go_ret
    exact ⟨rfl, q1⟩
end Go.Proofs.YtnlnkjaapdefiaaGreatDoor
