/- Layer 15: the walk of MachItems. -/
import Derived.Test.YtiidjkhkcckmkaaGreatDoorMaW0
import Derived.Test.YtiidjkhkcckmkaaGreatDoorMaX
import Derived.Test.YtiidjkhkcckmkaaGreatDoorBasP
import Derived.Deep.RegionHeld
import Derived.Deep.LoopGhost
import Derived.Deep.DeepCutAuto
import Derived.OrdersHeld
namespace Go.Proofs.YtiidjkhkcckmkaaGreatDoor
set_option linter.unusedSimpArgs false
set_option linter.unusedVariables false
open Go.RowKit Go.Lib
open Mch (MS)
set_option maxHeartbeats 12800000 in
set_option maxRecDepth 100000 in
theorem machItems_walk (hN0 : NewC15) (hS0 : SaneC15) (hF0 : FeedC15) (hK0 : CostC15) (hA0 : AllC15) (hG0 : GoodC1) (v : Value) (l : List Int) (w : World) (hT : Tabs w) (hv : RI w v l ∧ WfI l) :
    Calls Tryz.prog 7 #[v] w fun e w' => e = .returned (.bool true) ∧ Below w.heap.size w w' := by
  obtain ⟨hri, hwl⟩ := hv
  obtain ⟨p, cap, rfl⟩ := ri_form hri
  have hawake := Lib.hid (fun W h => awake15 hN0 hS0 hF0 hK0 hA0 W h)
  replace hT := Lib.hid hT
  replace hri := Lib.hid hri
  by_cases hl : l.length ≤ 60
  · have hl' : decide (60 < l.length) = false := decide_eq_false (by omega)
    have hl2 : ¬ (60 : Int) < (l.length : Int) := by omega
    have hall0 := fun W t h => hA0 0 (.slice p l.length cap) l W t (by omega) h hwl (by unfold I64; omega)
    have hall3 := fun W t h => hA0 3 (.slice p l.length cap) l W t (by omega) h hwl (by unfold I64; omega)
    have hall4 := fun W t h => hA0 4 (.slice p l.length cap) l W t (by omega) h hwl (by unfold I64; omega)
    have hgood := Lib.hid hG0
    have hseg := Mch.seg_items l
    have hnone := Mch.all_none l
    have hat := Mch.at_start l
    have hd : ∀ x ∈ Mch.allM 0 l, Dec.goodB x = true := by rw [Mch.all_dec]; exact Flw.all_good _
    have hdl : (Mch.allM 0 l).length ≤ 200 := by rw [Mch.all_dec]; have := Dec.all_len (l.map Mch.byteOf); rw [List.length_map] at this; omega
    have hall5 := fun V W t => fun h1 h2 h3 => hA0 4 V (Mch.allM 3 l) W t h1 h2 h3 (by unfold I64; omega)
    obtain ⟨D, hD⟩ : ∃ D, Mch.allM 0 l = D := ⟨_, rfl⟩
    rw [hD] at hall0 hd hdl
    obtain ⟨M, hM⟩ : ∃ M, Mch.allM 3 l = M := ⟨_, rfl⟩
    rw [hM] at hall3 hseg hat hall5
    obtain ⟨Z, hZ⟩ : ∃ Z, Mch.allM 4 l = Z := ⟨_, rfl⟩
    rw [hZ] at hall4 hnone
    unfold Told at hall0 hall3 hall4 hall5
    replace hall0 := Lib.hid hall0
    replace hall3 := Lib.hid hall3
    replace hall4 := Lib.hid hall4
    replace hall5 := Lib.hid hall5
    replace hseg := Lib.hid hseg
    replace hnone := Lib.hid hnone
    replace hat := Lib.hid hat
    replace hd := Lib.hid hd
    replace hwl := Lib.hid hwl
    clear hD hM hZ hN0 hS0 hF0 hK0 hA0 hG0
    go_enter Tryz.func7, Tryz.ntmps7
    go_wp2_with fail
    refine (hawake.out _ hT.out).mono ?_
    rintro e w1 ⟨rfl, q1⟩
    replace hri := Lib.hid (ri_below hri.out q1)
    replace hT := Lib.hid (tabs_next hT.out q1)
    have bq := Lib.hid q1
    clear q1
    go_wp2_with fail
    go_loopg [4] l.length (fun g vi wr => ∃ i : Nat, i ≤ l.length ∧ vi = .int .i64 i ∧ g = l.length - i ∧ Hid (∀ j (hj : j < l.length), j < i → l[j] ≠ -1) ∧ w1 = wr)
    case atStart => exact ⟨0, Nat.zero_le _, rfl, rfl, Lib.hid fun j hj h => by omega, rfl⟩
    case round =>
      obtain ⟨i, hile, rfl, rfl, hno, rfl⟩ := hrel
      by_cases hlt : i < l.length
      · have hlt' : (i : Int) < (l.length : Int) := by omega
        obtain ⟨b1, o1, rfl, hb1, hc1⟩ := ri_at hri.out (by omega)
        have k1 := hc1 i hlt
        by_cases hx1 : l[i] = -1
        · rw [hx1] at k1
          clear hc1
          go_wp2_with fail
          go_ret
          exact ⟨rfl, bq.out⟩
        · have hno2 : Hid (∀ j (hj : j < l.length), j < i + 1 → l[j] ≠ -1) := Lib.hid fun j hj h => by
            rcases Nat.lt_or_ge j i with g | g
            · exact hno.out j hj g
            · obtain rfl : j = i := by omega
              exact hx1
          obtain ⟨x, hx⟩ : ∃ x, l[i] = x := ⟨_, rfl⟩
          rw [hx] at k1 hx1
          have hx2 : (x == -1) = false := beq_eq_false_iff_ne.2 hx1
          clear hc1 hx hno
          go_wp2_with fail
          go_roundg (l.length - (i + 1))
          case measure => omega
          case rel => exact ⟨i + 1, by omega, by go_num, rfl, hno2, rfl⟩
      · obtain rfl : i = l.length := by omega
        have hlt' : decide ((l.length : Int) < (l.length : Int)) = false := by simp
        have hne : ∀ x ∈ l, x ≠ -1 := fun x hx => by
          obtain ⟨j, hj, rfl⟩ := List.mem_iff_getElem.1 hx
          exact hno.out j hj hj
        obtain ⟨F, hF1, hF2, hM2, hM3, hF3⟩ := hseg.out hne
        have hZ0 := hnone.out hne
        subst hZ0
        have hMl : M.length ≤ 120 := by omega
        have hMw : WfI M := fun x hx => by
          rcases hM3 x hx with g | g
          · exact hwl.out x g
          · omega
        have hall6 := fun V W t h => hall5.out V W t (by omega) h hMw
        rw [hF1] at hall6
        have hFl : (Mch.itemsOf F).length = F.length := by unfold Mch.itemsOf; rw [List.length_map]
        have hstep := fun i k n h => fun hi => Mch.at_step (l := l) (s := M) (i := i) (k := k) (n := n) h hne hi
        obtain ⟨I, hI⟩ : ∃ I, Mch.itemsOf F = I := ⟨_, rfl⟩
        have hIb : ∀ x ∈ I, 0 ≤ x ∧ x ≤ 255 := fun x hx => by
          rw [← hI] at hx
          obtain ⟨c, _, rfl⟩ := List.mem_map.1 (show x ∈ F.map fun c => (c.toNat : Int) from hx)
          have := c.toNat_lt
          omega
        rw [hI] at hall6 hFl
        have hIM : M.length ≤ I.length := by omega
        have hIM2 : decide ((M.length : Int) ≤ (I.length : Int)) = true := decide_eq_true (by omega)
        have hIL : I.length ≤ 100000 := by
          rw [hFl]
          omega
        replace hall6 := Lib.hid hall6
        replace hstep := Lib.hid hstep
        replace hIb := Lib.hid hIb
        clear hno hseg hnone hall5 hne hF1 hF2 hF3 hM2 hM3 hMw hFl hI hwl
        go_wp2_with fail
        refine (hall0.out _ hT.out hri.out).mono ?_
        rintro e w2 ⟨vd, rfl, d, q2⟩
        obtain ⟨pd, cd, rfl⟩ := ri_form d
        replace hri := Lib.hid (ri_below hri.out q2)
        replace hT := Lib.hid (tabs_next hT.out q2)
        replace bq := Lib.hid (below_on bq.out q2)
        replace d := Lib.hid d
        clear q2
        go_wp2_with fail
        go_loopg [6] D.length (fun g vi wr => ∃ i : Nat, i ≤ D.length ∧ vi = .int .i64 i ∧ g = D.length - i ∧ w2 = wr)
        case atStart => exact ⟨0, Nat.zero_le _, rfl, rfl, rfl⟩
        case round =>
          obtain ⟨i, hile, rfl, rfl, rfl⟩ := hrel
          by_cases hlt : i < D.length
          · have hlt' : (i : Int) < (D.length : Int) := by omega
            obtain ⟨b1, o1, rfl, hb1, hc1⟩ := ri_at d.out (by omega)
            have k1 := hc1 i hlt
            have hg := hgood.out D[i] w2
            rw [hd.out _ (List.getElem_mem hlt)] at hg
            obtain ⟨x, hx⟩ : ∃ x, D[i] = x := ⟨_, rfl⟩
            rw [hx] at k1 hg
            replace hg := Lib.hid hg
            clear hc1 hx
            go_wp2_with fail
            refine hg.out.mono ?_
            rintro e w3 ⟨rfl, rfl⟩
            go_wp2_with fail
            go_roundg (D.length - (i + 1))
            case measure => omega
            case rel => exact ⟨i + 1, by omega, by go_num, rfl, rfl⟩
          · obtain rfl : i = D.length := by omega
            have hlt' : decide ((D.length : Int) < (D.length : Int)) = false := by simp
            clear d
            go_wp2_with fail
            refine (hall3.out _ hT.out hri.out).mono ?_
            rintro e w3 ⟨vm, rfl, m, q3⟩
            obtain ⟨pm, cm, rfl⟩ := ri_form m
            replace hri := Lib.hid (ri_below hri.out q3)
            replace hT := Lib.hid (tabs_next hT.out q3)
            replace bq := Lib.hid (below_on bq.out q3)
            replace m := Lib.hid m
            clear q3
            go_wp2_with fail
            go_loopg [8, 9, 10] M.length (fun g vk vn vi wr => ∃ i k n : Nat, i ≤ M.length ∧ vi = .int .i64 i ∧ vk = .int .i64 k ∧ vn = .int .i64 n ∧ g = M.length - i ∧ Mch.At l M i k n ∧ Below w3.heap.size w3 wr)
            case atStart => exact ⟨0, 0, 0, Nat.zero_le _, rfl, rfl, rfl, rfl, hat.out, Below.refl _ _⟩
            case round =>
              obtain ⟨i, k, n, hile, rfl, rfl, rfl, rfl, hi5, hbel⟩ := hrel
              have hle := Mch.at_le hi5
              by_cases hlt : i < M.length
              · have hlt' : (i : Int) < (M.length : Int) := by omega
                obtain ⟨b1, o1, rfl, hb1, hc1⟩ := ri_at (ri_below m.out hbel) (by omega)
                have k1 := hc1 i hlt
                rcases hstep.out i k n hi5 hlt with ⟨e1, e2, e3, e4⟩ | ⟨e1, hk, e2, e3, e4⟩
                · rw [e1] at k1
                  have t1 : decide ((n : Int) < 1) = false := decide_eq_false (by omega)
                  have t2 : decide ((32 : Int) < (n : Int)) = false := decide_eq_false (by omega)
                  replace hbel := Lib.hid hbel
                  replace e4 := Lib.hid e4
                  clear hc1 e1 hi5
                  go_wp2_with fail
                  go_roundg (M.length - (i + 1))
                  case measure => omega
                  case rel => exact ⟨i + 1, k, 0, by omega, by go_num, rfl, rfl, rfl, e4.out, hbel.out⟩
                · obtain ⟨b2, o2, rfl, hb2, hc2⟩ := ri_at (ri_below (ri_below hri.out (Below.refl w3.heap.size w3)) hbel) (by omega)
                  have k2 := hc2 k hk
                  rw [← e2] at k2
                  obtain ⟨x, hx⟩ : ∃ x, M[i] = x := ⟨_, rfl⟩
                  rw [hx] at k1 k2 e1
                  have hx2 : (x == -1) = false := beq_eq_false_iff_ne.2 e1
                  have hk1 : decide ((l.length : Int) ≤ (k : Int)) = false := decide_eq_false (by omega)
                  have hk3 : (k : Int) < (l.length : Int) := by omega
                  have hk4 : decide (l.length ≤ k) = false := decide_eq_false (by omega)
                  have hk5 : ¬ (l.length : Int) ≤ (k : Int) := by omega
                  have hk6 : ¬ l.length ≤ k := by omega
                  have hll : l.length ≤ 60 := hl
                  replace hbel := Lib.hid hbel
                  replace e4 := Lib.hid e4
                  clear hc1 hc2 hi5 e2 hx
                  go_upto_region 25 with (fail)
                  refine wp_region_held_drew (S := fun w' => w'.cell? ⟨b1, o1 + i, none⟩ = some (.int .i64 x) ∧ w'.cell? ⟨b2, o2 + k, none⟩ = some (.int .i64 x)) (by kernel_rfl) (⟨k1, k2⟩) (fun hS => ?_)
                  refine' wpAnyH_take (i := 0) (oi := ⟨_, _, _, _, _, _⟩) (v := _) rfl (by kernel_rfl) (by kernel_rfl) (by kernel_rfl) (fun _ _ _ h => h) (Or.inl ⟨by rfl, ?hy0⟩) hS ?rest0
                  case hy0 => (intro wz hSw; (try dsimp only at hSw); go_simp; try with_reducible rfl)
                  try simp only [Act.put, List.setIfInBounds_toArray, List.set_cons_zero, List.set_cons_succ]
                  refine' wpAnyH_take (i := 1) (oi := ⟨_, _, _, _, _, _⟩) (v := _) rfl (by kernel_rfl) (by kernel_rfl) (by kernel_rfl) (fun _ _ _ h => h) (Or.inl ⟨by rfl, ?hy1⟩) hS ?rest1
                  case hy1 => (intro wz hSw; (try dsimp only at hSw); go_simp; try with_reducible rfl)
                  try simp only [Act.put, List.setIfInBounds_toArray, List.set_cons_zero, List.set_cons_succ]
                  refine' wpAnyH_take (i := 2) (oi := ⟨_, _, _, _, _, _⟩) (v := _) rfl (by kernel_rfl) (by kernel_rfl) (by kernel_rfl) (fun _ _ _ h => h) (Or.inl ⟨by rfl, ?hy2⟩) hS ?rest2
                  case hy2 => (intro wz hSw; (try dsimp only at hSw); go_simp; try with_reducible rfl)
                  try simp only [Act.put, List.setIfInBounds_toArray, List.set_cons_zero, List.set_cons_succ]
                  refine' wpAnyH_take (i := 3) (oi := ⟨_, _, _, _, _, _⟩) (v := _) rfl (by kernel_rfl) (by kernel_rfl) (by kernel_rfl) (fun _ _ _ h => h) (Or.inl ⟨by rfl, ?hy3⟩) hS ?rest3
                  case hy3 => (intro wz hSw; (try dsimp only at hSw); go_simp; try with_reducible rfl)
                  try simp only [Act.put, List.setIfInBounds_toArray, List.set_cons_zero, List.set_cons_succ]
                  refine' wpAnyH_take (i := 4) (oi := ⟨_, _, _, _, _, _⟩) (v := _) rfl (by kernel_rfl) (by kernel_rfl) (by kernel_rfl) (fun _ _ _ h => h) (Or.inl ⟨by rfl, ?hy4⟩) hS ?rest4
                  case hy4 => (intro wz hSw; (try dsimp only at hSw); go_simp; try with_reducible rfl)
                  try simp only [Act.put, List.setIfInBounds_toArray, List.set_cons_zero, List.set_cons_succ]
                  refine' wpAnyH_take (i := 5) (oi := ⟨_, _, _, _, _, _⟩) (v := _) rfl (by kernel_rfl) (by kernel_rfl) (by kernel_rfl) (fun _ _ _ h => h) (Or.inl ⟨by rfl, ?hy5⟩) hS ?rest5
                  case hy5 => (intro wz hSw; (try dsimp only at hSw); go_simp; try with_reducible rfl)
                  try simp only [Act.put, List.setIfInBounds_toArray, List.set_cons_zero, List.set_cons_succ]
                  refine' wpAnyH_take (i := 6) (oi := ⟨_, _, _, _, _, _⟩) (v := _) rfl (by kernel_rfl) (by kernel_rfl) (by kernel_rfl) (fun _ _ _ h => h) (Or.inl ⟨by rfl, ?hy6⟩) hS ?rest6
                  case hy6 => (intro wz hSw; (try dsimp only at hSw); go_simp; try with_reducible rfl)
                  try simp only [Act.put, List.setIfInBounds_toArray, List.set_cons_zero, List.set_cons_succ]
                  refine' wpAnyH_take (i := 7) (oi := ⟨_, _, _, _, _, _⟩) (v := _) rfl (by kernel_rfl) (by kernel_rfl) (by kernel_rfl) (fun _ _ _ h => h) (Or.inl ⟨by rfl, ?hy7⟩) hS ?rest7
                  case hy7 => (intro wz hSw; (try dsimp only at hSw); go_simp; try with_reducible rfl)
                  try simp only [Act.put, List.setIfInBounds_toArray, List.set_cons_zero, List.set_cons_succ]
                  refine' wpAnyH_take (i := 8) (oi := ⟨_, _, _, _, _, _⟩) (v := _) rfl (by kernel_rfl) (by kernel_rfl) (by kernel_rfl) (fun _ _ _ h => h) (Or.inl ⟨by rfl, ?hy8⟩) hS ?rest8
                  case hy8 => (intro wz hSw; (try dsimp only at hSw); go_simp; try with_reducible rfl)
                  try simp only [Act.put, List.setIfInBounds_toArray, List.set_cons_zero, List.set_cons_succ]
                  refine' wpAnyH_take (i := 9) (oi := ⟨_, _, _, _, _, _⟩) (v := _) rfl (by kernel_rfl) (by kernel_rfl) (by kernel_rfl) (fun _ _ _ h => h) (Or.inl ⟨by rfl, ?hy9⟩) hS ?rest9
                  case hy9 => (intro wz hSw; (try dsimp only at hSw); go_simp; try with_reducible rfl)
                  try simp only [Act.put, List.setIfInBounds_toArray, List.set_cons_zero, List.set_cons_succ]
                  refine' wpAnyH_take (i := 10) (oi := ⟨_, _, _, _, _, _⟩) (v := _) rfl (by kernel_rfl) (by kernel_rfl) (by kernel_rfl) (fun _ _ _ h => h) (Or.inl ⟨by rfl, ?hy10⟩) hS ?rest10
                  case hy10 => (intro wz hSw; (try dsimp only at hSw); go_simp; try with_reducible rfl)
                  try simp only [Act.put, List.setIfInBounds_toArray, List.set_cons_zero, List.set_cons_succ]
                  refine' wpAnyH_take (i := 11) (oi := ⟨_, _, _, _, _, _⟩) (v := _) rfl (by kernel_rfl) (by kernel_rfl) (by kernel_rfl) (fun _ _ _ h => h) (Or.inl ⟨by rfl, ?hy11⟩) hS ?rest11
                  case hy11 => (intro wz hSw; (try dsimp only at hSw); go_simp; try with_reducible rfl)
                  try simp only [Act.put, List.setIfInBounds_toArray, List.set_cons_zero, List.set_cons_succ]
                  refine' wpAnyH_take (i := 12) (oi := ⟨_, _, _, _, _, _⟩) (v := _) rfl (by kernel_rfl) (by kernel_rfl) (by kernel_rfl) (fun _ _ _ h => h) (Or.inl ⟨by rfl, ?hy12⟩) hS ?rest12
                  case hy12 => (intro wz hSw; (try dsimp only at hSw); go_simp; try with_reducible rfl)
                  try simp only [Act.put, List.setIfInBounds_toArray, List.set_cons_zero, List.set_cons_succ]
                  refine' wpAnyH_take (i := 13) (oi := ⟨_, _, _, _, _, _⟩) (v := _) rfl (by kernel_rfl) (by kernel_rfl) (by kernel_rfl) (fun _ _ _ h => h) (Or.inl ⟨by rfl, ?hy13⟩) hS ?rest13
                  case hy13 => (intro wz hSw; (try dsimp only at hSw); go_simp; try with_reducible rfl)
                  try simp only [Act.put, List.setIfInBounds_toArray, List.set_cons_zero, List.set_cons_succ]
                  refine' wpAnyH_take (i := 14) (oi := ⟨_, _, _, _, _, _⟩) (v := _) rfl (by kernel_rfl) (by kernel_rfl) (by kernel_rfl) (fun _ _ _ h => h) (Or.inl ⟨by rfl, ?hy14⟩) hS ?rest14
                  case hy14 => (intro wz hSw; (try dsimp only at hSw); go_simp; try with_reducible rfl)
                  try simp only [Act.put, List.setIfInBounds_toArray, List.set_cons_zero, List.set_cons_succ]
                  refine wpAnyH_done (by kernel_rfl) ?_ _
                  clear hS k1 k2
                  go_simp
                  go_wp2_with fail
                  go_roundg (M.length - (i + 1))
                  case measure => omega
                  case rel => exact ⟨i + 1, k + 1, n + 1, by omega, by go_num, by go_num, by go_num, rfl, e4.out, hbel.out.drew⟩
              · obtain rfl : i = M.length := by omega
                have hlt' : decide ((M.length : Int) < (M.length : Int)) = false := by simp
                obtain ⟨g1, g2⟩ := Mch.at_end hi5 rfl
                subst g1
                subst g2
                replace m := Lib.hid (ri_below m.out hbel)
                replace hri := Lib.hid (ri_below hri.out hbel)
                replace hT := Lib.hid (tabs_next hT.out hbel)
                replace bq := Lib.hid (below_on bq.out hbel)
                clear hi5 hbel hle
                go_wp2_with fail
                refine (hall6.out _ _ hT.out m.out).mono ?_
                rintro e w4 ⟨vf, rfl, f, q4⟩
                obtain ⟨pf, cf, rfl⟩ := ri_form f
                replace hri := Lib.hid (ri_below hri.out q4)
                replace hT := Lib.hid (tabs_next hT.out q4)
                replace bq := Lib.hid (below_on bq.out q4)
                replace f := Lib.hid f
                clear q4 m
                go_wp2_with fail
                go_loopg [12] I.length (fun g vi wr => ∃ i : Nat, i ≤ I.length ∧ vi = .int .i64 i ∧ g = I.length - i ∧ w4 = wr)
                case atStart => exact ⟨0, Nat.zero_le _, rfl, rfl, rfl⟩
                case round =>
                  obtain ⟨i, hile, rfl, rfl, rfl⟩ := hrel
                  by_cases hlt : i < I.length
                  · have hlt' : (i : Int) < (I.length : Int) := by omega
                    obtain ⟨b1, o1, rfl, hb1, hc1⟩ := ri_at f.out (by omega)
                    have k1 := hc1 i hlt
                    have hb := hIb.out I[i] (List.getElem_mem hlt)
                    obtain ⟨x, hx⟩ : ∃ x, I[i] = x := ⟨_, rfl⟩
                    rw [hx] at k1 hb
                    have t1 : decide (x < 0) = false := decide_eq_false (by omega)
                    have t2 : decide (255 < x) = false := decide_eq_false (by omega)
                    clear hc1 hx
                    go_wp2_with fail
                    go_roundg (I.length - (i + 1))
                    case measure => omega
                    case rel => exact ⟨i + 1, by omega, by go_num, rfl, rfl⟩
                  · obtain rfl : i = I.length := by omega
                    have hlt' : decide ((I.length : Int) < (I.length : Int)) = false := by simp
                    clear f
                    go_wp2_with fail
                    refine (hall4.out _ hT.out hri.out).mono ?_
                    rintro e w5 ⟨vz, rfl, z, q5⟩
                    obtain ⟨pz, cz, rfl⟩ := ri_form z
                    replace bq := Lib.hid (below_on bq.out q5)
                    clear q5 z
                    go_wp2_with fail
                    go_ret
                    exact ⟨rfl, bq.out⟩
  · have hl' : decide (60 < l.length) = true := decide_eq_true (by omega)
    have hl2 : (60 : Int) < (l.length : Int) := by omega
    clear hN0 hS0 hF0 hK0 hA0 hG0
    go_enter Tryz.func7, Tryz.ntmps7
    go_wp2_with fail
    refine (hawake.out _ hT.out).mono ?_
    rintro e w1 ⟨rfl, q1⟩
    go_wp2_with fail
    go_ret
    exact ⟨rfl, q1⟩
end Go.Proofs.YtiidjkhkcckmkaaGreatDoor
