/- Layer 12: the walk of SegParts. -/
import Derived.Test.YtbkgjbpnogcjeaaSgR3
import Derived.Test.YtbkgjbpnogcjeaaSgW0
import Derived.Test.YtbkgjbpnogcjeaaSgW2
import Derived.Test.YtbkgjbpnogcjeaaClS
import Derived.Test.YtbkgjbpnogcjeaaSaT
import Derived.Test.YtbkgjbpnogcjeaaBasP
namespace Go.Proofs.Ytbkgjbpnogcjeaa
set_option linter.unusedSimpArgs false
set_option linter.unusedVariables false
open Go.RowKit Go.Lib

theorem same_selfT3 (v1 v2 : Value) (l : List Bool) (w : World) (hl : l.length ≤ 100000) (h1 : RT w v1 l) (h2 : RT w v2 l) :
    Calls Try.prog 23 #[v1, v2] w fun e w' => e = .returned (.bool true) ∧ Below w.heap.size w w' := by
  refine (same_anyT v1 v2 l l w hl h1 h2).mono ?_
  rintro e w' ⟨rfl, n, rfl⟩
  exact ⟨by rw [show sameBT l l = true from decide_eq_true rfl], drewN_below w n⟩
theorem rr_take {w : World} {b off n cap : Nat} {ls : List (List Int)} (h : RR w (.slice (some ⟨b, off, none⟩) n cap) ls) (k : Nat) (hk : k ≤ ls.length) (hl : 0 < ls.length) : RR w (.slice (some ⟨b, off, none⟩) k cap) (ls.take k) := by
  have hc : ls.length ≤ cap := by
    rcases h with ⟨h, _⟩ | ⟨a, c, he, hc, _⟩
    · simp at h
    · simp at he
      omega
  obtain ⟨b', off', he, h1, h2⟩ := rr_at h hl
  simp only [Option.some.injEq, Addr.mk.injEq] at he
  obtain ⟨rfl, rfl, _⟩ := he
  refine .inr ⟨⟨b, off, none⟩, cap, by rw [List.length_take]; congr 1; omega, by rw [List.length_take]; omega, fun _ => ⟨b, off, rfl, h1, fun i hi => ?_⟩⟩
  rw [List.length_take] at hi
  obtain ⟨u, h3, h4⟩ := h2 i (by omega)
  exact ⟨u, h3, by rw [List.getElem_take]; exact h4⟩
theorem rr_cap {w : World} {b off n cap : Nat} {ls : List (List Int)} (h : RR w (.slice (some ⟨b, off, none⟩) n cap) ls) : n = ls.length ∧ n ≤ cap := by
  rcases h with ⟨h, _⟩ | ⟨a, c, he, hc, _⟩
  · simp at h
  · simp at he
    exact ⟨he.2.1, by omega⟩
theorem rr_drew {w : World} {v : Value} {ls : List (List Int)} (h : RR w v ls) : RR w.drew v ls := h

set_option maxHeartbeats 12800000 in
set_option maxRecDepth 100000 in
theorem segParts_walk (hS : SaneC12) (hA : AllC12) (hC : CutsC11) (va : Value) (a : List Int) (vb : Value) (b : List Int) (w : World) (hva : RI w va a ∧ WfI a) (hvb : RI w vb b ∧ WfI b) :
    Calls Try.prog 7 #[va, vb] w fun e w' => e = .returned (.bool true) ∧ Below w.heap.size w w' := by
  obtain ⟨hra, _⟩ := hva
  obtain ⟨hrb, _⟩ := hvb
  obtain ⟨pa, ca, rfl⟩ := ri_form hra
  obtain ⟨pb, cb, rfl⟩ := ri_form hrb
  obtain ⟨i0, hi, hz0, hz1, hz2⟩ := info_parts info_i
  have hawake := Lib.hid (awake12 hS hA)
  replace hra := Lib.hid hra
  replace hrb := Lib.hid hrb
  have hsrca := Lib.hid (fun W (h : Below w.heap.size w W) => ri_src (ri_below hra.out h))
  have hsrcb := Lib.hid (fun W (h : Below w.heap.size w W) => ri_src (ri_below hrb.out h))
  by_cases hl : a.length ≤ 100 ∧ b.length ≤ 100
  · obtain ⟨hla, hlb⟩ := hl
    have hl1 : decide (100 < a.length) = false := decide_eq_false (by omega)
    have hl2 : decide (100 < b.length) = false := decide_eq_false (by omega)
    have hl3 : ¬ (100 : Int) < (a.length : Int) := by omega
    have hl4 : ¬ (100 : Int) < (b.length : Int) := by omega
    have hx1 := fun W h => all_of12 hA (v := .slice pa a.length ca) (l := a) (w := W) rfl (by omega) h
    have hy1 := fun V W h => all_of12 hA (v := V) (l := a ++ b) (w := W) rfl (by simp; omega) h
    by_cases ha : a = []
    · subst ha
      have e0 : Sgm.allI [] = [] := rfl
      rw [e0] at hx1
      obtain ⟨YS, hYSe⟩ : ∃ L, Sgm.allI ([] ++ b) = L := ⟨_, rfl⟩
      rw [hYSe] at hy1
      replace hx1 := Lib.hid hx1
      replace hy1 := Lib.hid hy1
      clear hYSe hS hA hC e0
      go_enter Try.func7, Try.ntmps7
      go_wp2_with fail
      refine (hawake.out w).mono ?_
      rintro e w0 ⟨rfl, b0⟩
      replace b0 := Lib.hid b0
      go_wp2_with fail
      refine (hx1.out _ (ri_below hra.out b0.out)).mono ?_
      rintro e w1 ⟨vx, rfl, tx, q1⟩
      obtain ⟨px, c5, rfl⟩ := rr_form tx
      have b1 := Lib.hid (below_on b0.out q1)
      clear q1 b0 tx
      have e1 := Lib.hid (ownI_lit w1.heap.size w1 [] #[] w1.heap.size 0 rfl (Nat.le_refl _) rfl rfl (by unfold maxLen; omega))
      have g1 := Lib.hid (below_new w1 (.cells #[] 3))
      have s1 := Lib.hid (hsrca.out _ (below_on b1.out g1.out))
      go_upto_region 6 with (at_builtin; refine wpList_append_src rfl _ _ 22 rfl w1.heap.size 3 i0 (.int .i64 0) 8 Try.underlying22 hi hz0 hz1 hz2 rfl _ _ _ rfl e1.out _ _ rfl s1.out (oneCellI _) (by unfold maxLen; first | (simp; done) | (simp; omega)) (by first | (simp; done) | (simp; omega)) g1.out.size ?_; intro v2 w2 ho2 hg2; have o2 := Lib.hid (ownI_of_row (l := []) ho2 (by (try simp); try omega) (by (try simp); try omega)); have b2 := Lib.hid (below_row g1.out hg2 g1.out.size e1.out (Nat.le_refl _)); clear ho2 hg2)
      have s2 := Lib.hid (hsrcb.out _ (below_on b1.out b2.out))
      clear e1 s1 g1
      go_wp2_with (at_builtin; refine wpList_append_src rfl _ _ 22 rfl w1.heap.size 3 i0 (.int .i64 0) 8 Try.underlying22 hi hz0 hz1 hz2 rfl _ _ _ rfl o2.out _ _ rfl s2.out (oneCellI _) (by unfold maxLen; first | (simp; done) | (simp; omega)) (by first | (simp; done) | (simp; omega)) b2.out.size ?_; intro v3 w3 ho3 hg3; have o3 := Lib.hid (ownI_of_row (l := [] ++ b) ho3 (by (try simp); try omega) (by (try simp); try omega)); have b3 := Lib.hid (below_row b2.out hg3 b2.out.size o2.out (Nat.le_refl _)); clear ho3 hg3)
      have rall := Lib.hid (ri_of_own o3.out)
      have b4 := Lib.hid (below_on b1.out b3.out)
      clear o2 s2 b2 o3 b3 b1
      refine (hy1.out _ _ rall.out).mono ?_
      rintro e w5 ⟨vy, rfl, ty, q5⟩
      have b5 := Lib.hid (below_on b4.out q5)
      clear q5 b4 ty
      go_wp2_with fail
      go_ret
      exact ⟨rfl, b5.out⟩
    · obtain ⟨P, X, u, rest, hXa, hYa⟩ := Sgm.all_begins a b ha
      have hjx := Sgm.all_join a
      obtain ⟨Y, hYY⟩ : ∃ Y, X ++ u = Y := ⟨_, rfl⟩
      have hXY : X.length ≤ Y.length := by rw [← hYY, List.length_append]; omega
      have hXY2 : (X.length : Int) ≤ (Y.length : Int) := by omega
      rw [hYY] at hYa
      have hXS := hXa
      obtain ⟨XS, hXSe⟩ : ∃ L, Sgm.allI a = L := ⟨_, rfl⟩
      obtain ⟨YS, hYSe⟩ : ∃ L, Sgm.allI (a ++ b) = L := ⟨_, rfl⟩
      rw [hXSe] at hXa hx1 hjx
      rw [hYSe] at hYa hy1
      obtain ⟨n, hn⟩ : ∃ n, P.length = n := ⟨_, rfl⟩
      have hXl : XS.length = n + 1 := by rw [hXa]; simp [hn]
      have hX1 : XS.length ≤ 100 := by
        have := flat_len (L := XS) fun x hx => (hjx.2 x hx).1
        rw [hjx.1] at this
        omega
      have hn100 : n ≤ 100 := by omega
      obtain ⟨M, hM⟩ : ∃ M, YS.length = M := ⟨_, rfl⟩
      have hnM : n < M := by rw [← hM, hYa]; simp; omega
      have hnM2 : (n : Int) < (M : Int) := by omega
      have hMl : M ≤ 200 := by
        have hjy := Sgm.all_join (a ++ b)
        rw [hYSe] at hjy
        have := flat_len (L := YS) fun x hx => (hjy.2 x hx).1
        rw [hjy.1, List.length_append] at this
        omega
      have hXt : XS.take n = P := by rw [hXa, ← hn, List.take_left]
      have hYt : YS.take n = P := by rw [hYa, ← hn, List.take_left]
      have hXn : XS[n]? = some X := by rw [hXa, ← hn]; simp
      have hYn : YS[n]? = some Y := by rw [hYa, ← hn]; simp
      have hPl : ∀ z ∈ P, z.length ≤ 100000 := fun z hz => by
        have := (hjx.2 z (by rw [hXa]; exact List.mem_append_left _ hz)).2
        omega
      have hPn : P.length ≤ 100000 := by omega
      obtain ⟨A, hAA⟩ : ∃ A, a ++ b = A := ⟨_, rfl⟩
      have hAl : A.length = a.length + b.length := by rw [← hAA]; simp
      rw [hAA] at hy1
      have hcall := fun V W h => cuts_of11 hC (v := V) (l := A) (w := W) rfl (by omega) h
      have hca := fun W h => cuts_of11 hC (v := .slice pa a.length ca) (l := a) (w := W) rfl (by omega) h
      have hKA : (Clu.cutsI Clu.zero A).take a.length = Clu.cutsI Clu.zero a := by
        rw [← hAA, Clu.cuts_app]
        exact List.take_left' (Clu.cuts_len _ _)
      have hKAl := Clu.cuts_len Clu.zero a
      have hKl0 := Clu.cuts_len Clu.zero A
      obtain ⟨K, hK⟩ : ∃ K, Clu.cutsI Clu.zero A = K := ⟨_, rfl⟩
      obtain ⟨KA, hKAe⟩ : ∃ K, Clu.cutsI Clu.zero a = K := ⟨_, rfl⟩
      rw [hK] at hcall hKA hKl0
      rw [hKAe] at hca hKA hKAl
      have hKAn : KA.length ≤ 100 := by omega
      have hKl := Lib.hid (show a.length ≤ K.length by omega)
      have hapos : 0 < a.length := List.length_pos_iff.2 ha
      have hKpos := Lib.hid (show 0 < K.length by omega)
      have ht1 := Lib.hid (fun W b o c (h : RT W (.slice (some ⟨b, o, none⟩) K.length c) K) => hKA ▸ rt_take h a.length hKl.out)
      replace hAA := Lib.hid hAA
      replace hx1 := Lib.hid hx1
      replace hy1 := Lib.hid hy1
      replace hcall := Lib.hid hcall
      replace hca := Lib.hid hca
      replace hPl := Lib.hid hPl
      replace hXt := Lib.hid hXt
      replace hYt := Lib.hid hYt
      replace hXn := Lib.hid hXn
      replace hYn := Lib.hid hYn
      replace hXl := Lib.hid hXl
      replace hM := Lib.hid hM
      replace hAl := Lib.hid hAl
      replace hn := Lib.hid hn
      have hPn2 := Lib.hid hPn
      clear hXa hYa hjx hXS hXSe hYSe hK hKAe hKA hKAl hKl0 hYY hS hA hC ha hX1 hPn
      go_enter Try.func7, Try.ntmps7
      go_wp2_with fail
      refine (hawake.out w).mono ?_
      rintro e w0 ⟨rfl, b0⟩
      replace b0 := Lib.hid b0
      go_wp2_with fail
      refine (hx1.out _ (ri_below hra.out b0.out)).mono ?_
      rintro e w1 ⟨vx, rfl, tx, q1⟩
      obtain ⟨px, c5, rfl⟩ := rr_form tx
      rw [hXl.out] at tx ⊢
      have b1 := Lib.hid (below_on b0.out q1)
      replace tx := Lib.hid tx
      clear q1 b0
      have e1 := Lib.hid (ownI_lit w1.heap.size w1 [] #[] w1.heap.size 0 rfl (Nat.le_refl _) rfl rfl (by unfold maxLen; omega))
      have g1 := Lib.hid (below_new w1 (.cells #[] 3))
      have s1 := Lib.hid (hsrca.out _ (below_on b1.out g1.out))
      go_upto_region 6 with (at_builtin; refine wpList_append_src rfl _ _ 22 rfl w1.heap.size 3 i0 (.int .i64 0) 8 Try.underlying22 hi hz0 hz1 hz2 rfl _ _ _ rfl e1.out _ _ rfl s1.out (oneCellI _) (by unfold maxLen; first | (simp; done) | (simp; omega)) (by first | (simp; done) | (simp; omega)) g1.out.size ?_; intro v2 w2 ho2 hg2; have o2 := Lib.hid (ownI_of_row (l := a) ho2 (by (try simp); try omega) (by (try simp); try omega)); have b2 := Lib.hid (below_row g1.out hg2 g1.out.size e1.out (Nat.le_refl _)); clear ho2 hg2)
      have s2 := Lib.hid (hsrcb.out _ (below_on b1.out b2.out))
      clear e1 s1 g1
      go_wp2_with (at_builtin; refine wpList_append_src rfl _ _ 22 rfl w1.heap.size 3 i0 (.int .i64 0) 8 Try.underlying22 hi hz0 hz1 hz2 rfl _ _ _ rfl o2.out _ _ rfl s2.out (oneCellI _) (by unfold maxLen; first | (simp; done) | (simp; omega)) (by first | (simp; done) | (simp; omega)) b2.out.size ?_; intro v3 w3 ho3 hg3; have o3 := Lib.hid (ownI_of_row (l := a ++ b) ho3 (by (try simp); try omega) (by (try simp); try omega)); have b3 := Lib.hid (below_row b2.out hg3 b2.out.size o2.out (Nat.le_refl _)); clear ho3 hg3)
      have rall := Lib.hid (ri_cast (ri_of_own o3.out) hAA.out)
      have b4 := Lib.hid (below_on b1.out b3.out)
      replace tx := Lib.hid (rr_below tx.out b3.out)
      clear o2 s2 b2 o3 b3 b1
      refine (hy1.out _ _ rall.out).mono ?_
      rintro e w5 ⟨vy, rfl, ty, q5⟩
      obtain ⟨py, c6, rfl⟩ := rr_form ty
      rw [hM.out] at ty ⊢
      have tx5 := rr_below tx.out q5
      have rall5 := ri_below rall.out q5
      have b5 := below_on b4.out q5
      have tx6 := tx5
      have ty6 := ty
      rw [← hXl.out] at tx6
      rw [← hM.out] at ty6
      obtain ⟨bx, ox, rfl, hbx, hcx⟩ := rr_at tx6 (by have := hXl.out; omega)
      obtain ⟨by_, oy, rfl, hby, hcy⟩ := rr_at ty6 (by have := hM.out; omega)
      have hc5 := (rr_cap tx6).2
      have hc6 := (rr_cap ty6).2
      rw [hXl.out] at hc5
      rw [hM.out] at hc6
      have hn5 : n ≤ c5 := by omega
      have hn6 : n ≤ c6 := by omega
      have hn7 : (n : Int) ≤ (c5 : Int) := by omega
      have hn8 : (n : Int) ≤ (c6 : Int) := by omega
      obtain ⟨u1, d1, r1⟩ := hcx n (by have := hXl.out; omega)
      obtain ⟨u2, d2, r2⟩ := hcy n (by have := hM.out; omega)
      have hXn' := hXn.out
      have hYn' := hYn.out
      rw [List.getElem?_eq_getElem (by have := hXl.out; omega)] at hXn'
      rw [List.getElem?_eq_getElem (by have := hM.out; omega)] at hYn'
      rw [Option.some.inj hXn'] at r1
      rw [Option.some.inj hYn'] at r2
      obtain ⟨q1, k1, rfl⟩ := ri_form r1
      obtain ⟨q2, k2, rfl⟩ := ri_form r2
      have H2 := Lib.hid (And.intro d1 d2)
      have hxp := Lib.hid (rr_drew (hXt.out ▸ rr_take tx6 n (by have := hXl.out; omega) (by have := hXl.out; omega)))
      have hyp := Lib.hid (rr_drew (hYt.out ▸ rr_take ty6 n (by have := hM.out; omega) (by have := hM.out; omega)))
      have ra := Lib.hid (ri_drewR (ri_below hra.out b5))
      replace rall := Lib.hid (ri_drewR rall5)
      have bq := Lib.hid b5.drew
      have hnn1 : (n : Int) < (n : Int) + 1 := by omega
      have hn1 : ¬ (n : Int) + 1 = 0 := by omega
      have hn2 : ((n : Int) + 1 == 0) = false := beq_eq_false_iff_ne.2 (by omega)
      clear hcx hcy d1 d2 r1 r2 hXn' hYn' tx6 ty6 tx5 tx ty rall5 b5 b4 q5 hbx hby
      go_upto_region 11 with (fail)
      refine wp_region_held_drew (S := fun w' => w'.cell? ⟨bx, ox + n, none⟩ = some (.slice q1 X.length k1) ∧ w'.cell? ⟨by_, oy + n, none⟩ = some (.slice q2 Y.length k2)) (by kernel_rfl) (H2.out) (fun hS => ?_)
      refine' wpAnyH_take (i := 0) (oi := ⟨_, _, _, _, _, _⟩) (v := _) rfl (by kernel_rfl) (by kernel_rfl) (by kernel_rfl) (fun _ _ _ h => h) (Or.inl ⟨by rfl, ?hy0⟩) hS ?rest0
      case hy0 => (intro wz hSw; (try dsimp only at hSw); go_simp; try with_reducible rfl)
      try simp only [Act.put, List.setIfInBounds_toArray, List.set_cons_zero, List.set_cons_succ]
      refine' wpAnyH_take (i := 1) (oi := ⟨_, _, _, _, _, _⟩) (v := _) rfl (by kernel_rfl) (by kernel_rfl) (by kernel_rfl) (fun _ _ _ h => h) (Or.inl ⟨by rfl, ?hy1⟩) hS ?rest1
      case hy1 => (intro wz hSw; (try dsimp only at hSw); go_simp; try with_reducible rfl)
      try simp only [Act.put, List.setIfInBounds_toArray, List.set_cons_zero, List.set_cons_succ]
      refine' wpAnyH_take (i := 2) (oi := ⟨_, _, _, _, _, _⟩) (v := _) rfl (by kernel_rfl) (by kernel_rfl) (by kernel_rfl) (fun _ _ _ h => h) (Or.inl ⟨by rfl, ?hy2⟩) hS ?rest2
      case hy2 => (intro wz hSw; (try dsimp only at hSw); go_simp; try with_reducible rfl)
      try simp only [Act.put, List.setIfInBounds_toArray, List.set_cons_zero, List.set_cons_succ]
      refine' wpAnyH_take (i := 3) (oi := ⟨_, _, _, _, _, _⟩) (v := _) rfl (by kernel_rfl) (by kernel_rfl) (by kernel_rfl) (fun _ _ _ h => h) (Or.inl ⟨by rfl, ?hy3⟩) hS ?rest3
      case hy3 => (intro wz hSw; (try dsimp only at hSw); go_simp; try with_reducible rfl)
      try simp only [Act.put, List.setIfInBounds_toArray, List.set_cons_zero, List.set_cons_succ]
      refine' wpAnyH_take (i := 4) (oi := ⟨_, _, _, _, _, _⟩) (v := _) rfl (by kernel_rfl) (by kernel_rfl) (by kernel_rfl) (fun _ _ _ h => h) (Or.inl ⟨by rfl, ?hy4⟩) hS ?rest4
      case hy4 => (intro wz hSw; (try dsimp only at hSw); go_simp; try with_reducible rfl)
      try simp only [Act.put, List.setIfInBounds_toArray, List.set_cons_zero, List.set_cons_succ]
      refine' wpAnyH_take (i := 5) (oi := ⟨_, _, _, _, _, _⟩) (v := _) rfl (by kernel_rfl) (by kernel_rfl) (by kernel_rfl) (fun _ _ _ h => h) (Or.inl ⟨by rfl, ?hy5⟩) hS ?rest5
      case hy5 => (intro wz hSw; (try dsimp only at hSw); go_simp; try with_reducible rfl)
      try simp only [Act.put, List.setIfInBounds_toArray, List.set_cons_zero, List.set_cons_succ]
      refine' wpAnyH_take (i := 6) (oi := ⟨_, _, _, _, _, _⟩) (v := _) rfl (by kernel_rfl) (by kernel_rfl) (by kernel_rfl) (fun _ _ _ h => h) (Or.inl ⟨by rfl, ?hy6⟩) hS ?rest6
      case hy6 => (intro wz hSw; (try dsimp only at hSw); go_simp; try with_reducible rfl)
      try simp only [Act.put, List.setIfInBounds_toArray, List.set_cons_zero, List.set_cons_succ]
      refine' wpAnyH_take (i := 7) (oi := ⟨_, _, _, _, _, _⟩) (v := _) rfl (by kernel_rfl) (by kernel_rfl) (by kernel_rfl) (fun _ _ _ h => h) (Or.inl ⟨by rfl, ?hy7⟩) hS ?rest7
      case hy7 => (intro wz hSw; (try dsimp only at hSw); go_simp; try with_reducible rfl)
      try simp only [Act.put, List.setIfInBounds_toArray, List.set_cons_zero, List.set_cons_succ]
      refine' wpAnyH_take (i := 8) (oi := ⟨_, _, _, _, _, _⟩) (v := _) rfl (by kernel_rfl) (by kernel_rfl) (by kernel_rfl) (fun _ _ _ h => h) (Or.inl ⟨by rfl, ?hy8⟩) hS ?rest8
      case hy8 => (intro wz hSw; (try dsimp only at hSw); go_simp; try with_reducible rfl)
      try simp only [Act.put, List.setIfInBounds_toArray, List.set_cons_zero, List.set_cons_succ]
      refine' wpAnyH_take (i := 9) (oi := ⟨_, _, _, _, _, _⟩) (v := _) rfl (by kernel_rfl) (by kernel_rfl) (by kernel_rfl) (fun _ _ _ h => h) (Or.inl ⟨by rfl, ?hy9⟩) hS ?rest9
      case hy9 => (intro wz hSw; (try dsimp only at hSw); go_simp; try with_reducible rfl)
      try simp only [Act.put, List.setIfInBounds_toArray, List.set_cons_zero, List.set_cons_succ]
      refine' wpAnyH_take (i := 10) (oi := ⟨_, _, _, _, _, _⟩) (v := _) rfl (by kernel_rfl) (by kernel_rfl) (by kernel_rfl) (fun _ _ _ h => h) (Or.inl ⟨by rfl, ?hy10⟩) hS ?rest10
      case hy10 => (intro wz hSw; (try dsimp only at hSw); go_simp; try with_reducible rfl)
      try simp only [Act.put, List.setIfInBounds_toArray, List.set_cons_zero, List.set_cons_succ]
      refine' wpAnyH_take (i := 11) (oi := ⟨_, _, _, _, _, _⟩) (v := _) rfl (by kernel_rfl) (by kernel_rfl) (by kernel_rfl) (fun _ _ _ h => h) (Or.inl ⟨by rfl, ?hy11⟩) hS ?rest11
      case hy11 => (intro wz hSw; (try dsimp only at hSw); go_simp; try with_reducible rfl)
      try simp only [Act.put, List.setIfInBounds_toArray, List.set_cons_zero, List.set_cons_succ]
      refine' wpAnyH_take (i := 12) (oi := ⟨_, _, _, _, _, _⟩) (v := _) rfl (by kernel_rfl) (by kernel_rfl) (by kernel_rfl) (fun _ _ _ h => h) (Or.inl ⟨by rfl, ?hy12⟩) hS ?rest12
      case hy12 => (intro wz hSw; (try dsimp only at hSw); go_simp; try with_reducible rfl)
      try simp only [Act.put, List.setIfInBounds_toArray, List.set_cons_zero, List.set_cons_succ]
      refine' wpAnyH_take (i := 13) (oi := ⟨_, _, _, _, _, _⟩) (v := _) rfl (by kernel_rfl) (by kernel_rfl) (by kernel_rfl) (fun _ _ _ h => h) (Or.inl ⟨by rfl, ?hy13⟩) hS ?rest13
      case hy13 => (intro wz hSw; (try dsimp only at hSw); go_simp; try with_reducible rfl)
      try simp only [Act.put, List.setIfInBounds_toArray, List.set_cons_zero, List.set_cons_succ]
      refine wpAnyH_ready (rs := [14]) (by kernel_rfl) (by simp) (AllReadyH.cons rfl (fun K hK => ?_) AllReadyH.nil)
      go_simp
      go_at_call 19
      refine (same_selfR _ _ P _ hPn2.out hPl.out hxp.out hyp.out).mono ?_
      rintro e w_14 ⟨rfl, q_14⟩
      replace rall := Lib.hid (ri_below rall.out q_14)
      replace ra := Lib.hid (ri_below ra.out q_14)
      replace bq := Lib.hid (below_on bq.out q_14)
      go_wp2_with fail
      refine hK.out _ _ (heldR2 q_14 hS) (fun hSn => ?_)
      clear hS
      have hS := hSn
      clear hSn
      clear hK K
      try simp only [Act.put, List.setIfInBounds_toArray, List.set_cons_zero, List.set_cons_succ]
      clear q_14
      refine' wpAnyH_take (i := 15) (oi := ⟨_, _, _, _, _, _⟩) (v := _) rfl (by kernel_rfl) (by kernel_rfl) (by kernel_rfl) (fun _ _ _ h => h) (Or.inl ⟨by rfl, ?hy15⟩) hS ?rest15
      case hy15 => (intro wz hSw; (try dsimp only at hSw); go_simp; try with_reducible rfl)
      try simp only [Act.put, List.setIfInBounds_toArray, List.set_cons_zero, List.set_cons_succ]
      refine' wpAnyH_take (i := 16) (oi := ⟨_, _, _, _, _, _⟩) (v := _) rfl (by kernel_rfl) (by kernel_rfl) (by kernel_rfl) (fun _ _ _ h => h) (Or.inl ⟨by rfl, ?hy16⟩) hS ?rest16
      case hy16 => (intro wz hSw; (try dsimp only at hSw); go_simp; try with_reducible rfl)
      try simp only [Act.put, List.setIfInBounds_toArray, List.set_cons_zero, List.set_cons_succ]
      refine' wpAnyH_take (i := 17) (oi := ⟨_, _, _, _, _, _⟩) (v := _) rfl (by kernel_rfl) (by kernel_rfl) (by kernel_rfl) (fun _ _ _ h => h) (Or.inl ⟨by rfl, ?hy17⟩) hS ?rest17
      case hy17 => (intro wz hSw; (try dsimp only at hSw); go_simp; try with_reducible rfl)
      try simp only [Act.put, List.setIfInBounds_toArray, List.set_cons_zero, List.set_cons_succ]
      refine' wpAnyH_take (i := 18) (oi := ⟨_, _, _, _, _, _⟩) (v := _) rfl (by kernel_rfl) (by kernel_rfl) (by kernel_rfl) (fun _ _ _ h => h) (Or.inl ⟨by rfl, ?hy18⟩) hS ?rest18
      case hy18 => (intro wz hSw; (try dsimp only at hSw); go_simp; try with_reducible rfl)
      try simp only [Act.put, List.setIfInBounds_toArray, List.set_cons_zero, List.set_cons_succ]
      refine' wpAnyH_take (i := 19) (oi := ⟨_, _, _, _, _, _⟩) (v := _) rfl (by kernel_rfl) (by kernel_rfl) (by kernel_rfl) (fun _ _ _ h => h) (Or.inl ⟨by rfl, ?hy19⟩) hS ?rest19
      case hy19 => (intro wz hSw; (try dsimp only at hSw); go_simp; try with_reducible rfl)
      try simp only [Act.put, List.setIfInBounds_toArray, List.set_cons_zero, List.set_cons_succ]
      refine' wpAnyH_take (i := 20) (oi := ⟨_, _, _, _, _, _⟩) (v := _) rfl (by kernel_rfl) (by kernel_rfl) (by kernel_rfl) (fun _ _ _ h => h) (Or.inl ⟨by rfl, ?hy20⟩) hS ?rest20
      case hy20 => (intro wz hSw; (try dsimp only at hSw); go_simp; try with_reducible rfl)
      try simp only [Act.put, List.setIfInBounds_toArray, List.set_cons_zero, List.set_cons_succ]
      refine' wpAnyH_take (i := 21) (oi := ⟨_, _, _, _, _, _⟩) (v := _) rfl (by kernel_rfl) (by kernel_rfl) (by kernel_rfl) (fun _ _ _ h => h) (Or.inl ⟨by rfl, ?hy21⟩) hS ?rest21
      case hy21 => (intro wz hSw; (try dsimp only at hSw); go_simp; try with_reducible rfl)
      try simp only [Act.put, List.setIfInBounds_toArray, List.set_cons_zero, List.set_cons_succ]
      refine' wpAnyH_take (i := 22) (oi := ⟨_, _, _, _, _, _⟩) (v := _) rfl (by kernel_rfl) (by kernel_rfl) (by kernel_rfl) (fun _ _ _ h => h) (Or.inl ⟨by rfl, ?hy22⟩) hS ?rest22
      case hy22 => (intro wz hSw; (try dsimp only at hSw); go_simp; try with_reducible rfl)
      try simp only [Act.put, List.setIfInBounds_toArray, List.set_cons_zero, List.set_cons_succ]
      refine' wpAnyH_take (i := 23) (oi := ⟨_, _, _, _, _, _⟩) (v := _) rfl (by kernel_rfl) (by kernel_rfl) (by kernel_rfl) (fun _ _ _ h => h) (Or.inl ⟨by rfl, ?hy23⟩) hS ?rest23
      case hy23 => (intro wz hSw; (try dsimp only at hSw); go_simp; try with_reducible rfl)
      try simp only [Act.put, List.setIfInBounds_toArray, List.set_cons_zero, List.set_cons_succ]
      refine' wpAnyH_take (i := 24) (oi := ⟨_, _, _, _, _, _⟩) (v := _) rfl (by kernel_rfl) (by kernel_rfl) (by kernel_rfl) (fun _ _ _ h => h) (Or.inl ⟨by rfl, ?hy24⟩) hS ?rest24
      case hy24 => (intro wz hSw; (try dsimp only at hSw); go_simp; try with_reducible rfl)
      try simp only [Act.put, List.setIfInBounds_toArray, List.set_cons_zero, List.set_cons_succ]
      refine' wpAnyH_take (i := 25) (oi := ⟨_, _, _, _, _, _⟩) (v := _) rfl (by kernel_rfl) (by kernel_rfl) (by kernel_rfl) (fun _ _ _ h => h) (Or.inl ⟨by rfl, ?hy25⟩) hS ?rest25
      case hy25 => (intro wz hSw; (try dsimp only at hSw); go_simp; try with_reducible rfl)
      try simp only [Act.put, List.setIfInBounds_toArray, List.set_cons_zero, List.set_cons_succ]
      refine' wpAnyH_take (i := 26) (oi := ⟨_, _, _, _, _, _⟩) (v := _) rfl (by kernel_rfl) (by kernel_rfl) (by kernel_rfl) (fun _ _ _ h => h) (Or.inl ⟨by rfl, ?hy26⟩) hS ?rest26
      case hy26 => (intro wz hSw; (try dsimp only at hSw); go_simp; try with_reducible rfl)
      try simp only [Act.put, List.setIfInBounds_toArray, List.set_cons_zero, List.set_cons_succ]
      refine' wpAnyH_take (i := 27) (oi := ⟨_, _, _, _, _, _⟩) (v := _) rfl (by kernel_rfl) (by kernel_rfl) (by kernel_rfl) (fun _ _ _ h => h) (Or.inl ⟨by rfl, ?hy27⟩) hS ?rest27
      case hy27 => (intro wz hSw; (try dsimp only at hSw); go_simp; try with_reducible rfl)
      try simp only [Act.put, List.setIfInBounds_toArray, List.set_cons_zero, List.set_cons_succ]
      refine' wpAnyH_take (i := 28) (oi := ⟨_, _, _, _, _, _⟩) (v := _) rfl (by kernel_rfl) (by kernel_rfl) (by kernel_rfl) (fun _ _ _ h => h) (Or.inl ⟨by rfl, ?hy28⟩) hS ?rest28
      case hy28 => (intro wz hSw; (try dsimp only at hSw); go_simp; try with_reducible rfl)
      try simp only [Act.put, List.setIfInBounds_toArray, List.set_cons_zero, List.set_cons_succ]
      refine' wpAnyH_take (i := 29) (oi := ⟨_, _, _, _, _, _⟩) (v := _) rfl (by kernel_rfl) (by kernel_rfl) (by kernel_rfl) (fun _ _ _ h => h) (Or.inl ⟨by rfl, ?hy29⟩) hS ?rest29
      case hy29 => (intro wz hSw; (try dsimp only at hSw); go_simp; try with_reducible rfl)
      try simp only [Act.put, List.setIfInBounds_toArray, List.set_cons_zero, List.set_cons_succ]
      refine' wpAnyH_take (i := 30) (oi := ⟨_, _, _, _, _, _⟩) (v := _) rfl (by kernel_rfl) (by kernel_rfl) (by kernel_rfl) (fun _ _ _ h => h) (Or.inl ⟨by rfl, ?hy30⟩) hS ?rest30
      case hy30 => (intro wz hSw; (try dsimp only at hSw); go_simp; try with_reducible rfl)
      try simp only [Act.put, List.setIfInBounds_toArray, List.set_cons_zero, List.set_cons_succ]
      refine' wpAnyH_take (i := 32) (oi := ⟨_, _, _, _, _, _⟩) (v := _) rfl (by kernel_rfl) (by kernel_rfl) (by kernel_rfl) (fun _ _ _ h => h) (Or.inl ⟨by rfl, ?hy32⟩) hS ?rest32
      case hy32 => (intro wz hSw; (try dsimp only at hSw); go_simp; try with_reducible rfl)
      try simp only [Act.put, List.setIfInBounds_toArray, List.set_cons_zero, List.set_cons_succ]
      refine' wpAnyH_take (i := 33) (oi := ⟨_, _, _, _, _, _⟩) (v := _) rfl (by kernel_rfl) (by kernel_rfl) (by kernel_rfl) (fun _ _ _ h => h) (Or.inl ⟨by rfl, ?hy33⟩) hS ?rest33
      case hy33 => (intro wz hSw; (try dsimp only at hSw); go_simp; try with_reducible rfl)
      try simp only [Act.put, List.setIfInBounds_toArray, List.set_cons_zero, List.set_cons_succ]
      refine' wpAnyH_take (i := 35) (oi := ⟨_, _, _, _, _, _⟩) (v := _) rfl (by kernel_rfl) (by kernel_rfl) (by kernel_rfl) (fun _ _ _ h => h) (Or.inl ⟨by rfl, ?hy35⟩) hS ?rest35
      case hy35 => (intro wz hSw; (try dsimp only at hSw); go_simp; try with_reducible rfl)
      try simp only [Act.put, List.setIfInBounds_toArray, List.set_cons_zero, List.set_cons_succ]
      refine wpAnyH_ready (rs := [31]) (by kernel_rfl) (by simp) (AllReadyH.cons rfl (fun K hK => ?_) AllReadyH.nil)
      go_simp
      go_at_call 22
      refine (hcall.out _ _ rall.out).mono ?_
      rintro e w_31 ⟨v_t1, rfl, t1, q_31⟩
      obtain ⟨p_t1, c_t1, rfl⟩ := rt_form t1
      have tc1 := (rt_cap t1).2.1
      obtain ⟨bt1, ot1, rfl, _, _⟩ := rt_at t1 hKpos.out
      have tc2 : a.length ≤ c_t1 := by have := hKl.out; omega
      have tc3 : (a.length : Int) ≤ (c_t1 : Int) := by omega
      replace ra := Lib.hid (ri_below ra.out q_31)
      replace t1 := Lib.hid t1
      replace bq := Lib.hid (below_on bq.out q_31)
      go_wp2_with fail
      refine hK.out _ _ (heldR2 q_31 hS) (fun hSn => ?_)
      clear hS
      have hS := hSn
      clear hSn
      clear hK K
      try simp only [Act.put, List.setIfInBounds_toArray, List.set_cons_zero, List.set_cons_succ]
      clear q_31
      refine' wpAnyH_take (i := 34) (oi := ⟨_, _, _, _, _, _⟩) (v := _) rfl (by kernel_rfl) (by kernel_rfl) (by kernel_rfl) (fun _ _ _ h => h) (Or.inl ⟨by rfl, ?hy34⟩) hS ?rest34
      case hy34 => (intro wz hSw; (try dsimp only at hSw); go_simp; try with_reducible rfl)
      try simp only [Act.put, List.setIfInBounds_toArray, List.set_cons_zero, List.set_cons_succ]
      refine wpAnyH_ready (rs := [36]) (by kernel_rfl) (by simp) (AllReadyH.cons rfl (fun K hK => ?_) AllReadyH.nil)
      go_simp
      go_at_call 22
      refine (hca.out _ ra.out).mono ?_
      rintro e w_36 ⟨v_t2, rfl, t2, q_36⟩
      obtain ⟨p_t2, c_t2, rfl⟩ := rt_form t2
      replace t1 := Lib.hid (rt_below t1.out q_36)
      replace t2 := Lib.hid t2
      replace bq := Lib.hid (below_on bq.out q_36)
      go_wp2_with fail
      refine hK.out _ _ (heldR2 q_36 hS) (fun hSn => ?_)
      clear hS
      have hS := hSn
      clear hSn
      clear hK K
      try simp only [Act.put, List.setIfInBounds_toArray, List.set_cons_zero, List.set_cons_succ]
      clear q_36
      refine wpAnyH_ready (rs := [37]) (by kernel_rfl) (by simp) (AllReadyH.cons rfl (fun K hK => ?_) AllReadyH.nil)
      go_simp
      go_at_call 23
      refine (same_selfT3 _ _ KA _ (by omega) (ht1.out _ _ _ _ t1.out) t2.out).mono ?_
      rintro e w_37 ⟨rfl, q_37⟩
      replace bq := Lib.hid (below_on bq.out q_37)
      go_wp2_with fail
      refine hK.out _ _ (heldR2 q_37 hS) (fun hSn => ?_)
      clear hS
      have hS := hSn
      clear hSn
      clear hK K
      try simp only [Act.put, List.setIfInBounds_toArray, List.set_cons_zero, List.set_cons_succ]
      clear q_37
      refine' wpAnyH_take (i := 38) (oi := ⟨_, _, _, _, _, _⟩) (v := _) rfl (by kernel_rfl) (by kernel_rfl) (by kernel_rfl) (fun _ _ _ h => h) (Or.inl ⟨by rfl, ?hy38⟩) hS ?rest38
      case hy38 => (intro wz hSw; (try dsimp only at hSw); go_simp; try with_reducible rfl)
      try simp only [Act.put, List.setIfInBounds_toArray, List.set_cons_zero, List.set_cons_succ]
      refine' wpAnyH_take (i := 39) (oi := ⟨_, _, _, _, _, _⟩) (v := _) rfl (by kernel_rfl) (by kernel_rfl) (by kernel_rfl) (fun _ _ _ h => h) (Or.inl ⟨by rfl, ?hy39⟩) hS ?rest39
      case hy39 => (intro wz hSw; (try dsimp only at hSw); go_simp; try with_reducible rfl)
      try simp only [Act.put, List.setIfInBounds_toArray, List.set_cons_zero, List.set_cons_succ]
      refine wpAnyH_done (by kernel_rfl) ?_ _
      clear hS
      go_simp
      go_wp2_with fail
      go_ret
      exact ⟨rfl, bq.out⟩
  · clear hS hA hC
    by_cases h1 : a.length ≤ 100
    · have hl1 : decide (100 < a.length) = false := decide_eq_false (by omega)
      have hl2 : decide (100 < b.length) = true := decide_eq_true (by omega)
      have hl3 : ¬ (100 : Int) < (a.length : Int) := by omega
      have hl4 : (100 : Int) < (b.length : Int) := by omega
      clear hl
      go_enter Try.func7, Try.ntmps7
      go_wp2_with fail
      refine (hawake.out _).mono ?_
      rintro e w1 ⟨rfl, q1⟩
      have b1 := Lib.hid q1
      clear q1
      go_wp2_with fail
      go_ret
      exact ⟨rfl, b1.out⟩
    · have hl1 : decide (100 < a.length) = true := decide_eq_true (by omega)
      have hl3 : (100 : Int) < (a.length : Int) := by omega
      clear hl
      go_enter Try.func7, Try.ntmps7
      go_wp2_with fail
      refine (hawake.out _).mono ?_
      rintro e w1 ⟨rfl, q1⟩
      have b1 := Lib.hid q1
      clear q1
      go_wp2_with fail
      go_ret
      exact ⟨rfl, b1.out⟩

end Go.Proofs.Ytbkgjbpnogcjeaa
