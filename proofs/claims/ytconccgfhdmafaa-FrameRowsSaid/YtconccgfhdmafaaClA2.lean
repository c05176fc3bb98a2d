/- Layer 11: the code's Ends, Next. -/
import Derived.Test.YtconccgfhdmafaaClA1
import Derived.Test.YtconccgfhdmafaaPrA3
import Derived.Test.YtconccgfhdmafaaBasP
import Derived.Deep.RegionHeld3
import Derived.Deep.RegionHeld
import Derived.OrdersHeld
namespace Go.Proofs.Ytconccgfhdmafaa
set_option linter.unusedSimpArgs false
set_option linter.unusedVariables false
open Go.RowKit Go.Lib

theorem ends_known (s : Clu.CS) (r : Int) : Clu.endsI s r = if (knownC s).on = true then partB (knownC s) (Prp.gcbI r) else false := by
  unfold Clu.endsI
  rw [ends_part]
  unfold knownC
  cases h : Clu.saneB s
  · simp [Clu.zero]
  · cases h2 : s.on <;> simp [h2]

theorem beq_dec (x y : Int) : (x == y) = decide (x = y) := by rw [Bool.eq_iff_iff]; simp

theorem held4 {w w1 : World} {a0 a1 a2 a3 : Addr} {u0 u1 u2 u3 : Value} (hb : Below w.heap.size w w1) (h : w.cell? a0 = some u0 ∧ w.cell? a1 = some u1 ∧ w.cell? a2 = some u2 ∧ w.cell? a3 = some u3) :
    w1.cell? a0 = some u0 ∧ w1.cell? a1 = some u1 ∧ w1.cell? a2 = some u2 ∧ w1.cell? a3 = some u3 := by
  obtain ⟨h0, h1, h2, h3⟩ := h
  exact ⟨by rw [hb.cell (World.block_lt_of_cell? _ _ h0)]; exact h0, by rw [hb.cell (World.block_lt_of_cell? _ _ h1)]; exact h1, by rw [hb.cell (World.block_lt_of_cell? _ _ h2)]; exact h2, by rw [hb.cell (World.block_lt_of_cell? _ _ h3)]; exact h3⟩

set_option maxHeartbeats 6400000 in
set_option maxRecDepth 100000 in
theorem cends_any (s : Clu.CS) (r : Int) (w : World) : Calls Try.prog 50 #[csV s, .int .i64 r] w fun e w' => e = .returned (.bool (Clu.endsI s r)) ∧ Below w.heap.size w w' := by
  have hkn := fun W => cknown_any s W
  have hgcb := fun W => gcb_any r W
  have hpt := fun W => cpart_any (knownC s) (Prp.gcbI r) W
  rw [ends_known]
  obtain ⟨K, hK⟩ : ∃ K, knownC s = K := ⟨_, rfl⟩
  obtain ⟨g, hg⟩ : ∃ g, Prp.gcbI r = g := ⟨_, rfl⟩
  obtain ⟨PB, hPB⟩ : ∃ PB, partB K g = PB := ⟨_, rfl⟩
  rw [hK, hg, hPB] at hpt
  rw [hK] at hkn
  rw [hg] at hgcb
  rw [hK, hg, hPB]
  obtain ⟨on, k, p, o⟩ := s
  obtain ⟨n2, k2, p2, o2⟩ := K
  unfold csV at hkn hpt ⊢
  dsimp only at hkn hpt ⊢
  have hb := Lib.hid (blk_new w #[.bool on, .int .i64 k, .bool p, .bool o] 69)
  have hbel := Lib.hid (below_new w (.cells #[.bool on, .int .i64 k, .bool p, .bool o] 69))
  replace hkn := Lib.hid hkn
  replace hgcb := Lib.hid hgcb
  replace hpt := Lib.hid hpt
  clear hK hg hPB
  go_enter Try.func50, Try.ntmps50
  go_wp2_with fail
  
  refine (hkn.out _).mono ?_
  rintro e w1 ⟨rfl, hb1⟩
  have hbx1 := blk_below hb.out hb1
  have f0 := blk_thaw hbx1 0
  have f1 := blk_thaw hbx1 1
  have f2 := blk_thaw hbx1 2
  have f3 := blk_thaw hbx1 3
  have b0 := blk_cell hbx1 0 (.bool on) rfl
  have b1 := blk_cell hbx1 1 (.int .i64 k) rfl
  have b2 := blk_cell hbx1 2 (.bool p) rfl
  have b3 := blk_cell hbx1 3 (.bool o) rfl
  have x2 := Lib.hid (blk_set4 hbx1 (.bool n2) (.int .i64 k2) (.bool p2) (.bool o2))
  have hb2 := Lib.hid (below_set4 (below_on hbel.out hb1) (Nat.le_refl _) (.bool n2) (.int .i64 k2) (.bool p2) (.bool o2))
  replace hb1 := Lib.hid hb1
  replace hbx1 := Lib.hid hbx1
  clear hb hbel
  go_upto_region 2 with (fail)
  clear f0 f1 f2 f3 b0 b1 b2 b3
  rcases n2 with _ | _
  · have c0 := Lib.hid (blk_cell x2.out 0 (.bool false) rfl)
    refine wp_region_held_drew (S := fun w' => w'.cell? ⟨w.heap.size, 0, none⟩ = some (.bool false)) (by kernel_rfl) (c0.out) (fun hS => ?_)
    refine' wpAnyH_take (i := 0) (oi := ⟨_, _, _, _, _, _⟩) (v := _) rfl (by kernel_rfl) (by kernel_rfl) (by kernel_rfl) (fun _ _ _ h => h) (Or.inl ⟨by rfl, ?hya0⟩) hS ?resta0
    case hya0 => (intro wz hSw; (try dsimp only at hSw); go_simp; try with_reducible rfl)
    try simp only [Act.put, List.setIfInBounds_toArray, List.set_cons_zero, List.set_cons_succ]
    refine' wpAnyH_take (i := 1) (oi := ⟨_, _, _, _, _, _⟩) (v := _) rfl (by kernel_rfl) (by kernel_rfl) (by kernel_rfl) (fun _ _ _ h => h) (Or.inl ⟨by rfl, ?hya1⟩) hS ?resta1
    case hya1 => (intro wz hSw; (try dsimp only at hSw); go_simp; try with_reducible rfl)
    try simp only [Act.put, List.setIfInBounds_toArray, List.set_cons_zero, List.set_cons_succ]
    refine' wpAnyH_take (i := 2) (oi := ⟨_, _, _, _, _, _⟩) (v := _) rfl (by kernel_rfl) (by kernel_rfl) (by kernel_rfl) (fun _ _ _ h => h) (Or.inl ⟨by rfl, ?hya2⟩) hS ?resta2
    case hya2 => (intro wz hSw; (try dsimp only at hSw); go_simp; try with_reducible rfl)
    try simp only [Act.put, List.setIfInBounds_toArray, List.set_cons_zero, List.set_cons_succ]
    refine' wpAnyH_take (i := 3) (oi := ⟨_, _, _, _, _, _⟩) (v := undef) rfl (by kernel_rfl) (by kernel_rfl) (by kernel_rfl) (fun _ _ _ h => h) (Or.inr ⟨by rfl, rfl⟩) hS ?resta3
    try simp only [Act.put, List.setIfInBounds_toArray, List.set_cons_zero, List.set_cons_succ]
    refine' wpAnyH_take (i := 4) (oi := ⟨_, _, _, _, _, _⟩) (v := undef) rfl (by kernel_rfl) (by kernel_rfl) (by kernel_rfl) (fun _ _ _ h => h) (Or.inr ⟨by rfl, rfl⟩) hS ?resta4
    try simp only [Act.put, List.setIfInBounds_toArray, List.set_cons_zero, List.set_cons_succ]
    refine' wpAnyH_take (i := 5) (oi := ⟨_, _, _, _, _, _⟩) (v := undef) rfl (by kernel_rfl) (by kernel_rfl) (by kernel_rfl) (fun _ _ _ h => h) (Or.inr ⟨by rfl, rfl⟩) hS ?resta5
    try simp only [Act.put, List.setIfInBounds_toArray, List.set_cons_zero, List.set_cons_succ]
    refine' wpAnyH_take (i := 6) (oi := ⟨_, _, _, _, _, _⟩) (v := undef) rfl (by kernel_rfl) (by kernel_rfl) (by kernel_rfl) (fun _ _ _ h => h) (Or.inr ⟨by rfl, rfl⟩) hS ?resta6
    try simp only [Act.put, List.setIfInBounds_toArray, List.set_cons_zero, List.set_cons_succ]
    refine' wpAnyH_take (i := 7) (oi := ⟨_, _, _, _, _, _⟩) (v := _) rfl (by kernel_rfl) (by kernel_rfl) (by kernel_rfl) (fun _ _ _ h => h) (Or.inl ⟨by rfl, ?hya7⟩) hS ?resta7
    case hya7 => (intro wz hSw; (try dsimp only at hSw); go_simp; try with_reducible rfl)
    try simp only [Act.put, List.setIfInBounds_toArray, List.set_cons_zero, List.set_cons_succ]
    refine' wpAnyH_take (i := 8) (oi := ⟨_, _, _, _, _, _⟩) (v := _) rfl (by kernel_rfl) (by kernel_rfl) (by kernel_rfl) (fun _ _ _ h => h) (Or.inl ⟨by rfl, ?hya8⟩) hS ?resta8
    case hya8 => (intro wz hSw; (try dsimp only at hSw); go_simp; try with_reducible rfl)
    try simp only [Act.put, List.setIfInBounds_toArray, List.set_cons_zero, List.set_cons_succ]
    refine wpAnyH_done (by kernel_rfl) ?_ _
    clear hS c0
    go_simp
    go_wp2_with fail
    go_ret
    exact ⟨rfl, below_on hb2.out (Below.refl _ _).drew⟩
  · have c4 := Lib.hid (show _ ∧ _ ∧ _ ∧ _ from ⟨blk_cell x2.out 0 (.bool true) rfl, blk_cell x2.out 1 (.int .i64 k2) rfl, blk_cell x2.out 2 (.bool p2) rfl, blk_cell x2.out 3 (.bool o2) rfl⟩)
    refine wp_region_held_drew (S := fun w' => w'.cell? ⟨w.heap.size, 0, none⟩ = some (.bool true) ∧ w'.cell? ⟨w.heap.size, 1, none⟩ = some (.int .i64 k2) ∧ w'.cell? ⟨w.heap.size, 2, none⟩ = some (.bool p2) ∧ w'.cell? ⟨w.heap.size, 3, none⟩ = some (.bool o2)) (by kernel_rfl) (c4.out) (fun hS => ?_)
    refine' wpAnyH_take (i := 0) (oi := ⟨_, _, _, _, _, _⟩) (v := _) rfl (by kernel_rfl) (by kernel_rfl) (by kernel_rfl) (fun _ _ _ h => h) (Or.inl ⟨by rfl, ?hyb0⟩) hS ?restb0
    case hyb0 => (intro wz hSw; (try dsimp only at hSw); go_simp; try with_reducible rfl)
    try simp only [Act.put, List.setIfInBounds_toArray, List.set_cons_zero, List.set_cons_succ]
    refine' wpAnyH_take (i := 1) (oi := ⟨_, _, _, _, _, _⟩) (v := _) rfl (by kernel_rfl) (by kernel_rfl) (by kernel_rfl) (fun _ _ _ h => h) (Or.inl ⟨by rfl, ?hyb1⟩) hS ?restb1
    case hyb1 => (intro wz hSw; (try dsimp only at hSw); go_simp; try with_reducible rfl)
    try simp only [Act.put, List.setIfInBounds_toArray, List.set_cons_zero, List.set_cons_succ]
    refine' wpAnyH_take (i := 2) (oi := ⟨_, _, _, _, _, _⟩) (v := _) rfl (by kernel_rfl) (by kernel_rfl) (by kernel_rfl) (fun _ _ _ h => h) (Or.inl ⟨by rfl, ?hyb2⟩) hS ?restb2
    case hyb2 => (intro wz hSw; (try dsimp only at hSw); go_simp; try with_reducible rfl)
    try simp only [Act.put, List.setIfInBounds_toArray, List.set_cons_zero, List.set_cons_succ]
    refine' wpAnyH_take (i := 3) (oi := ⟨_, _, _, _, _, _⟩) (v := _) rfl (by kernel_rfl) (by kernel_rfl) (by kernel_rfl) (fun _ _ _ h => h) (Or.inl ⟨by rfl, ?hyb3⟩) hS ?restb3
    case hyb3 => (intro wz hSw; (try dsimp only at hSw); go_simp; try with_reducible rfl)
    try simp only [Act.put, List.setIfInBounds_toArray, List.set_cons_zero, List.set_cons_succ]
    refine' wpAnyH_take (i := 4) (oi := ⟨_, _, _, _, _, _⟩) (v := _) rfl (by kernel_rfl) (by kernel_rfl) (by kernel_rfl) (fun _ _ _ h => h) (Or.inl ⟨by rfl, ?hyb4⟩) hS ?restb4
    case hyb4 => (intro wz hSw; (try dsimp only at hSw); go_simp; try with_reducible rfl)
    try simp only [Act.put, List.setIfInBounds_toArray, List.set_cons_zero, List.set_cons_succ]
    refine wpAnyH_ready (rs := [5]) (by kernel_rfl) (by simp) (AllReadyH.cons rfl (fun K hK => ?_) AllReadyH.nil)
    go_simp
    go_at_call 52
    refine (hgcb.out _).mono ?_
    rintro e w3 ⟨rfl, hb3⟩
    go_wp2_with fail
    refine hK.out _ _ (held4 hb3 hS) (fun hSn => ?_)
    clear hS
    have hS := hSn
    clear hSn
    clear hK K
    try simp only [Act.put, List.setIfInBounds_toArray, List.set_cons_zero, List.set_cons_succ]
    have hb3' := Lib.hid (below_on hb2.out ((Below.refl _ _).drew.trans hb3))
    refine wpAnyH_ready (rs := [6]) (by kernel_rfl) (by simp) (AllReadyH.cons rfl (fun K hK => ?_) AllReadyH.nil)
    go_simp
    go_at_call 53
    refine (hpt.out _).mono ?_
    rintro e w4 ⟨rfl, hb4⟩
    go_wp2_with fail
    refine hK.out _ _ (held4 hb4 hS) (fun hSn => ?_)
    clear hS
    have hS := hSn
    clear hSn
    clear hK K
    try simp only [Act.put, List.setIfInBounds_toArray, List.set_cons_zero, List.set_cons_succ]
    have hb4' := Lib.hid (below_on hb3'.out hb4)
    refine' wpAnyH_take (i := 7) (oi := ⟨_, _, _, _, _, _⟩) (v := _) rfl (by kernel_rfl) (by kernel_rfl) (by kernel_rfl) (fun _ _ _ h => h) (Or.inl ⟨by rfl, ?hyb7⟩) hS ?restb7
    case hyb7 => (intro wz hSw; (try dsimp only at hSw); go_simp; try with_reducible rfl)
    try simp only [Act.put, List.setIfInBounds_toArray, List.set_cons_zero, List.set_cons_succ]
    refine' wpAnyH_take (i := 8) (oi := ⟨_, _, _, _, _, _⟩) (v := _) rfl (by kernel_rfl) (by kernel_rfl) (by kernel_rfl) (fun _ _ _ h => h) (Or.inl ⟨by rfl, ?hyb8⟩) hS ?restb8
    case hyb8 => (intro wz hSw; (try dsimp only at hSw); go_simp; try with_reducible rfl)
    try simp only [Act.put, List.setIfInBounds_toArray, List.set_cons_zero, List.set_cons_succ]
    refine wpAnyH_done (by kernel_rfl) ?_ _
    clear hS c4
    go_simp
    go_wp2_with fail
    go_ret
    exact ⟨rfl, hb4'.out⟩

set_option maxHeartbeats 6400000 in
set_option maxRecDepth 100000 in
theorem cnext_any (s : Clu.CS) (r : Int) (w : World) : Calls Try.prog 49 #[csV s, .int .i64 r] w fun e w' => e = .returned (csV (Clu.nextI s r)) ∧ Below w.heap.size w w' := by
  have hkn := fun W => cknown_any s W
  have hgcb := fun W => gcb_any r W
  obtain ⟨R, hR⟩ : ∃ R, Clu.nextI s r = R := ⟨_, rfl⟩
  rw [hR]
  unfold Clu.nextI Clu.nextK at hR
  rw [show (if Clu.saneB s = true then s else Clu.zero) = knownC s from rfl] at hR
  obtain ⟨K, hK⟩ : ∃ K, knownC s = K := ⟨_, rfl⟩
  obtain ⟨g, hg⟩ : ∃ g, Prp.gcbI r = g := ⟨_, rfl⟩
  rw [hK] at hkn hR
  rw [hg] at hgcb hR
  obtain ⟨on, k, p, o⟩ := s
  obtain ⟨n2, k2, p2, o2⟩ := K
  unfold csV at hkn ⊢
  dsimp only at hkn hR ⊢
  have hb0 := blk_new w #[.bool on, .int .i64 k, .bool p, .bool o] 69
  have hb := Lib.hid (blk_alloc hb0 (.cells #[.bool false, .int .i64 0, .bool false, .bool false] 69))
  have hres := blk_new (w.alloc (.cells #[.bool on, .int .i64 k, .bool p, .bool o] 69)) #[.bool false, .int .i64 0, .bool false, .bool false] 69
  rw [show (w.alloc (.cells #[.bool on, .int .i64 k, .bool p, .bool o] 69)).heap.size = w.heap.size + 1 by simp] at hres
  have hbel : Below w.heap.size w ((w.alloc (.cells #[.bool on, .int .i64 k, .bool p, .bool o] 69)).alloc (.cells #[.bool false, .int .i64 0, .bool false, .bool false] 69)) := (below_new w _).alloc (by simp) _
  replace hbel := Lib.hid hbel
  replace hres := Lib.hid hres
  replace hkn := Lib.hid hkn
  replace hgcb := Lib.hid hgcb
  replace hR := Lib.hid hR
  clear hK hg hb0
  go_enter Try.func49, Try.ntmps49
  go_wp2_with fail
  
  refine (hkn.out _).mono ?_
  rintro e w1 ⟨rfl, hb1⟩
  have hbx1 := blk_below hb.out hb1
  have f0 := blk_thaw hbx1 0
  have f1 := blk_thaw hbx1 1
  have f2 := blk_thaw hbx1 2
  have f3 := blk_thaw hbx1 3
  have b0 := blk_cell hbx1 0 (.bool on) rfl
  have b1 := blk_cell hbx1 1 (.int .i64 k) rfl
  have b2 := blk_cell hbx1 2 (.bool p) rfl
  have b3 := blk_cell hbx1 3 (.bool o) rfl
  have x2 := Lib.hid (blk_set4 hbx1 (.bool n2) (.int .i64 k2) (.bool p2) (.bool o2))
  have hb2 := Lib.hid (below_set4 (below_on hbel.out hb1) (Nat.le_refl _) (.bool n2) (.int .i64 k2) (.bool p2) (.bool o2))
  have r2 := Lib.hid (blk_other4 (j := w.heap.size) (blk_below hres.out hb1) (.bool n2) (.int .i64 k2) (.bool p2) (.bool o2) (by omega))
  replace hb1 := Lib.hid hb1
  replace hbx1 := Lib.hid hbx1
  clear hb hbel hres
  go_wp2_with fail
  clear f0 f1 f2 f3 b0 b1 b2 b3
  refine (hgcb.out _).mono ?_
  rintro e w3 ⟨rfl, hb3⟩
  have hbx3 := blk_below x2.out hb3
  have hrs3 := blk_below r2.out hb3
  have f0 := blk_thaw hrs3 0
  have f1 := blk_thaw hrs3 1
  have f2 := blk_thaw hrs3 2
  have f3 := blk_thaw hrs3 3
  have d0 := blk_cell hrs3 0 (.bool false) rfl
  have d1 := blk_cell hrs3 1 (.int .i64 0) rfl
  have d2 := blk_cell hrs3 2 (.bool false) rfl
  have d3 := blk_cell hrs3 3 (.bool false) rfl
  have c0 := blk_cell hbx3 0 (.bool n2) rfl
  have c1 := blk_cell hbx3 1 (.int .i64 k2) rfl
  have c2 := blk_cell hbx3 2 (.bool p2) rfl
  have c3 := blk_cell hbx3 3 (.bool o2) rfl
  replace hb3 := Lib.hid (below_on hb2.out hb3)
  clear hb1 hbx1 x2 r2 hb2 hbx3
  replace hrs3 := Lib.hid hrs3
  go_wp2_with fail
  all_goals
    refine bodyPost_ret (v := .agg #[.bool R.on, .int .i64 R.kind, .bool R.pict, .bool R.odd]) ?_ rfl ⟨rfl, below_set4 hb3.out (Nat.le_succ _) _ _ _ _⟩
    have q0 := fun x0 x1 x2 x3 => (set4_cell hrs3.out x0 x1 x2 x3).1
    have q1 := fun x0 x1 x2 x3 => (set4_cell hrs3.out x0 x1 x2 x3).2.1
    have q2 := fun x0 x1 x2 x3 => (set4_cell hrs3.out x0 x1 x2 x3).2.2.1
    have q3 := fun x0 x1 x2 x3 => (set4_cell hrs3.out x0 x1 x2 x3).2.2.2
    rw [← hR.out]
    clear hR hb3 hrs3 c0 c1 c2 c3 d0 d1 d2 d3 f0 f1 f2 f3 hgcb hkn
    simp [results, Try.results49, go_sem, q0, q1, q2, q3]
    clear q0 q1 q2 q3
    all_goals first | (simp [*]; done) | (simp_all; done) | (simp_all; omega) | (simp_all [Clu.zero]; done) | (simp_all [Clu.zero]; omega) | (simp only [beq_dec, bne] at *; simp_all; done) | (simp only [beq_dec, bne] at *; simp_all; omega) | (simp_all [beq_dec, bne]; done) | (simp_all [beq_dec, bne]; omega) | (trace_state; sorry)

end Go.Proofs.Ytconccgfhdmafaa
