/- Layer 12: the document's Same, of lists of lists that are the same. -/
import Derived.Test.YtbkgjbpnogcjeaaSgS
import Derived.Test.YtbkgjbpnogcjeaaBasP
import Derived.Deep.LoopGhost
import Derived.Deep.DeepCutAuto
import Derived.Deep.RegionHeld
import Derived.OrdersHeld
namespace Go.Proofs.Ytbkgjbpnogcjeaa
set_option linter.unusedSimpArgs false
set_option linter.unusedVariables false
open Go.RowKit Go.Lib

theorem heldR2 {w w1 : World} {a0 a1 : Addr} {u0 u1 : Value} (hb : Below w.heap.size w w1) (h : w.cell? a0 = some u0 ∧ w.cell? a1 = some u1) : w1.cell? a0 = some u0 ∧ w1.cell? a1 = some u1 :=
  ⟨by rw [hb.cell (World.block_lt_of_cell? _ _ h.1)]; exact h.1, by rw [hb.cell (World.block_lt_of_cell? _ _ h.2)]; exact h.2⟩
theorem ri_drewR {w : World} {v : Value} {l : List Int} (h : RI w v l) : RI w.drew v l := h

set_option maxHeartbeats 3200000 in
set_option maxRecDepth 100000 in
theorem same_selfR (v1 v2 : Value) (ls : List (List Int)) (w : World) (hn : ls.length ≤ 100000) (hl : ∀ x ∈ ls, x.length ≤ 100000) (h1 : RR w v1 ls) (h2 : RR w v2 ls) :
    Calls Try.prog 19 #[v1, v2] w fun e w' => e = .returned (.bool true) ∧ Below w.heap.size w w' := by
  obtain ⟨p1, c1, rfl⟩ := rr_form h1
  obtain ⟨p2, c2, rfl⟩ := rr_form h2
  replace h1 := Lib.hid h1
  replace h2 := Lib.hid h2
  replace hl := Lib.hid hl
  have hll : ((ls.length : Int) != (ls.length : Int)) = false := by simp
  go_enter Try.func19, Try.ntmps19
  go_wp2_with fail
  go_loopg [5] ls.length (fun g vi wr => ∃ j : Nat, j ≤ ls.length ∧ vi = .int .i64 j ∧ g = ls.length - j ∧ Below w.heap.size w wr)
  case atStart => exact ⟨0, Nat.zero_le _, rfl, rfl, Below.refl _ _⟩
  case round =>
    obtain ⟨j, hj, rfl, rfl, hbel⟩ := hrel
    by_cases hlt : j < ls.length
    · have hlt' : (j : Int) < (ls.length : Int) := by omega
      obtain ⟨b1, o1, rfl, hb1, hc1⟩ := rr_at h1.out (by omega)
      obtain ⟨b2, o2, rfl, hb2, hc2⟩ := rr_at h2.out (by omega)
      obtain ⟨u1, k1, r1⟩ := hc1 j hlt
      obtain ⟨u2, k2, r2⟩ := hc2 j hlt
      have hxl := hl.out ls[j] (List.getElem_mem hlt)
      obtain ⟨x, hx⟩ : ∃ x, ls[j] = x := ⟨_, rfl⟩
      rw [hx] at r1 r2 hxl
      have H2 := Lib.hid (And.intro ((hbel.cell (p := ⟨b1, o1 + j, none⟩) hb1).trans k1) ((hbel.cell (p := ⟨b2, o2 + j, none⟩) hb2).trans k2))
      have hs := Lib.hid (fun W (h : Below w.heap.size w W) => same_self u1 u2 x W.drew hxl (ri_drewR (ri_below r1 h)) (ri_drewR (ri_below r2 h)))
      replace hbel := Lib.hid hbel
      clear hc1 hc2 k1 k2 r1 r2 hx hxl
      go_upto_region 6 with (fail)
      refine wp_region_held_drew (S := fun w' => w'.cell? ⟨b1, o1 + j, none⟩ = some u1 ∧ w'.cell? ⟨b2, o2 + j, none⟩ = some u2) (by kernel_rfl) (H2.out) (fun hS => ?_)
      refine' wpAnyH_take (i := 0) (oi := ⟨_, _, _, _, _, _⟩) (v := _) rfl (by kernel_rfl) (by kernel_rfl) (by kernel_rfl) (fun _ _ _ h => h) (Or.inl ⟨by rfl, ?hy0⟩) hS ?rest0
      case hy0 => (intro wz hSw; (try dsimp only at hSw); go_simp; try with_reducible rfl)
      try simp only [Act.put, List.setIfInBounds_toArray, List.set_cons_zero, List.set_cons_succ]
      refine' wpAnyH_take (i := 1) (oi := ⟨_, _, _, _, _, _⟩) (v := _) rfl (by kernel_rfl) (by kernel_rfl) (by kernel_rfl) (fun _ _ _ h => h) (Or.inl ⟨by rfl, ?hy1⟩) hS ?rest1
      case hy1 => (intro wz hSw; (try dsimp only at hSw); go_simp; try with_reducible rfl)
      try simp only [Act.put, List.setIfInBounds_toArray, List.set_cons_zero, List.set_cons_succ]
      refine' wpAnyH_take (i := 2) (oi := ⟨_, _, _, _, _, _⟩) (v := _) rfl (by kernel_rfl) (by kernel_rfl) (by kernel_rfl) (fun _ _ _ h => h) (Or.inl ⟨by rfl, ?hy2⟩) hS ?rest2
      case hy2 => (intro wz hSw; (try dsimp only at hSw); go_simp; try with_reducible rfl)
      try simp only [Act.put, List.setIfInBounds_toArray, List.set_cons_zero, List.set_cons_succ]
      refine' wpAnyH_take (i := 3) (oi := ⟨_, _, _, _, _, _⟩) (v := _) rfl (by kernel_rfl) (by kernel_rfl) (by kernel_rfl) (fun _ _ _ h => h) (Or.inl ⟨by rfl, ?hy3⟩) hS ?rest3
      case hy3 => (intro wz hSw; (try dsimp only at hSw); go_simp; try with_reducible rfl)
      try simp only [Act.put, List.setIfInBounds_toArray, List.set_cons_zero, List.set_cons_succ]
      refine' wpAnyH_take (i := 4) (oi := ⟨_, _, _, _, _, _⟩) (v := _) rfl (by kernel_rfl) (by kernel_rfl) (by kernel_rfl) (fun _ _ _ h => h) (Or.inl ⟨by rfl, ?hy4⟩) hS ?rest4
      case hy4 => (intro wz hSw; (try dsimp only at hSw); go_simp; try with_reducible rfl)
      try simp only [Act.put, List.setIfInBounds_toArray, List.set_cons_zero, List.set_cons_succ]
      refine' wpAnyH_take (i := 5) (oi := ⟨_, _, _, _, _, _⟩) (v := _) rfl (by kernel_rfl) (by kernel_rfl) (by kernel_rfl) (fun _ _ _ h => h) (Or.inl ⟨by rfl, ?hy5⟩) hS ?rest5
      case hy5 => (intro wz hSw; (try dsimp only at hSw); go_simp; try with_reducible rfl)
      try simp only [Act.put, List.setIfInBounds_toArray, List.set_cons_zero, List.set_cons_succ]
      refine' wpAnyH_take (i := 6) (oi := ⟨_, _, _, _, _, _⟩) (v := _) rfl (by kernel_rfl) (by kernel_rfl) (by kernel_rfl) (fun _ _ _ h => h) (Or.inl ⟨by rfl, ?hy6⟩) hS ?rest6
      case hy6 => (intro wz hSw; (try dsimp only at hSw); go_simp; try with_reducible rfl)
      try simp only [Act.put, List.setIfInBounds_toArray, List.set_cons_zero, List.set_cons_succ]
      refine' wpAnyH_take (i := 7) (oi := ⟨_, _, _, _, _, _⟩) (v := _) rfl (by kernel_rfl) (by kernel_rfl) (by kernel_rfl) (fun _ _ _ h => h) (Or.inl ⟨by rfl, ?hy7⟩) hS ?rest7
      case hy7 => (intro wz hSw; (try dsimp only at hSw); go_simp; try with_reducible rfl)
      try simp only [Act.put, List.setIfInBounds_toArray, List.set_cons_zero, List.set_cons_succ]
      refine wpAnyH_ready (rs := [8]) (by kernel_rfl) (by simp) (AllReadyH.cons rfl (fun K hK => ?_) AllReadyH.nil)
      go_simp
      go_at_call 16
      refine (hs.out _ hbel.out).mono ?_
      rintro e w_8 ⟨rfl, q_8⟩
      go_wp2_with fail
      refine hK.out _ _ (heldR2 q_8 hS) (fun hSn => ?_)
      clear hS
      have hS := hSn
      clear hSn
      clear hK K
      try simp only [Act.put, List.setIfInBounds_toArray, List.set_cons_zero, List.set_cons_succ]
      refine' wpAnyH_take (i := 9) (oi := ⟨_, _, _, _, _, _⟩) (v := _) rfl (by kernel_rfl) (by kernel_rfl) (by kernel_rfl) (fun _ _ _ h => h) (Or.inl ⟨by rfl, ?hy9⟩) hS ?rest9
      case hy9 => (intro wz hSw; (try dsimp only at hSw); go_simp; try with_reducible rfl)
      try simp only [Act.put, List.setIfInBounds_toArray, List.set_cons_zero, List.set_cons_succ]
      refine wpAnyH_done (by kernel_rfl) ?_ _
      have bq := Lib.hid (below_on hbel.out.drew q_8)
      clear hS q_8
      go_simp
      go_wp2_with fail
      go_roundg (ls.length - (j + 1))
      case measure => omega
      case rel => exact ⟨j + 1, by omega, by go_num, rfl, bq.out⟩
    · obtain rfl : j = ls.length := by omega
      have hlt' : decide ((ls.length : Int) < (ls.length : Int)) = false := by simp
      replace hbel := Lib.hid hbel
      go_wp2_with fail
      go_ret
      exact ⟨rfl, hbel.out⟩

end Go.Proofs.Ytbkgjbpnogcjeaa
