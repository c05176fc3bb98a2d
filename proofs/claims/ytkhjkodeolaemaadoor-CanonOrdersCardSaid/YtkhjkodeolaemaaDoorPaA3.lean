/- Layer 5: the search for a pair. -/
import Derived.Test.YtkhjkodeolaemaaDoorPaA2
import Derived.Test.YtkhjkodeolaemaaDoorPaO
import Derived.Test.YtkhjkodeolaemaaDoorK6
import Derived.Deep.RegionHeld3
namespace Go.Proofs.YtkhjkodeolaemaaDoor
set_option linter.unusedSimpArgs false
set_option linter.unusedVariables false
open Go.RowKit Go.Lib

set_option maxHeartbeats 800000 in
theorem before_is (a b c d : Int) (w : World) :
    Calls Tryd.prog 53 #[.agg #[.int .i64 a, .int .i64 b], .agg #[.int .i64 c, .int .i64 d]] w fun e w' => e = .returned (.bool (Par.ltK a b c d)) ∧ Below w.heap.size w w' := by
  have hb1 := blk_alloc (blk_new w #[.int .i64 a, .int .i64 b] 56) (.cells #[.int .i64 c, .int .i64 d] 56)
  have hb2 := blk_new (w.alloc (.cells #[.int .i64 a, .int .i64 b] 56)) #[.int .i64 c, .int .i64 d] 56
  rw [show (w.alloc (.cells #[.int .i64 a, .int .i64 b] 56)).heap.size = w.heap.size + 1 by simp] at hb2
  have hbel : Below w.heap.size w ((w.alloc (.cells #[.int .i64 a, .int .i64 b] 56)).alloc (.cells #[.int .i64 c, .int .i64 d] 56)) := (below_new w _).alloc (by simp) _
  have hcmp := Lib.hid fun n => compares_is a b c d w.heap.size (w.heap.size + 1) (((w.alloc (.cells #[.int .i64 a, .int .i64 b] 56)).alloc (.cells #[.int .i64 c, .int .i64 d] 56)).drewN n)
    (blk_cell (blk_drewN hb1 n) 0 _ rfl) (blk_cell (blk_drewN hb1 n) 1 _ rfl) (blk_cell (blk_drewN hb2 n) 0 _ rfl) (blk_cell (blk_drewN hb2 n) 1 _ rfl)
  have hlt := Par.cmp_lt a b c d
  obtain ⟨z, hz⟩ : ∃ z, Par.cmpK a b c d = z := ⟨_, rfl⟩
  rw [hz] at hcmp hlt
  rw [← hlt]
  replace hbel := Lib.hid hbel
  clear hb1 hb2 hz hlt
  go_enter Tryd.func53, Tryd.ntmps53
  go_wp2_with fail
  go_quiet ((go_at_call 63; exact quiet_mine (hcmp.out _)))
  go_wp2_with fail
  go_ret
  exact ⟨rfl, hbel.out.trans ((drewN_below _ _).mono hbel.out.size)⟩

/-- the pair that is looked for, where the closure holds it -/
def Held (a b : Int) (g : Nat) (w : World) : Prop := w.cell? ⟨g, 0, none⟩ = some (.int .i64 a) ∧ w.cell? ⟨g, 1, none⟩ = some (.int .i64 b)
theorem held_below {a b : Int} {g B : Nat} {w w' : World} (h : Held a b g w) (hb : Below B w w') (hg : g < B) : Held a b g w' := ⟨by rw [hb.cell hg]; exact h.1, by rw [hb.cell hg]; exact h.2⟩

set_option maxHeartbeats 1600000 in
theorem notBefore_is (a b : Int) (k : Nat) (hk : k < 307) (x y : Int) (hx : (Par.T[k]'(by rw [Par.rows]; exact hk)).1 = x) (hy : (Par.T[k]'(by rw [Par.rows]; exact hk)).2.1 = y)
    (g : Nat) (w : World) (hg : g < w.heap.size) (hh : Held a b g w) :
    Calls Tryd.prog 52 #[.int .i64 k, .pointer (some ⟨g, 0, none⟩)] w fun e w' => e = .returned (.bool (!(Par.ltK x y a b))) ∧ Below w.heap.size w w' := by
  have hpair := Lib.hid (pair_is k hk x y hx hy)
  have hbef := before_is x y a b
  obtain ⟨z, hz⟩ : ∃ z, Par.ltK x y a b = z := ⟨_, rfl⟩
  rw [hz] at hbef ⊢
  replace hbef := Lib.hid hbef
  clear hz hx hy
  replace hh := Lib.hid hh
  replace hg := Lib.hid hg
  go_enter Tryd.func52, Tryd.ntmps52
  go_wp2_with fail
  refine wp_region_held_drew (S := fun w' => w'.cell? ⟨g, 0, none⟩ = some (.int .i64 a) ∧ w'.cell? ⟨g, 1, none⟩ = some (.int .i64 b)) (by kernel_rfl) (hh.out) (fun hS => ?_)
  refine' wpAnyH_take (i := 0) (oi := ⟨_, _, _, _, _, _⟩) (v := _) rfl (by kernel_rfl) (by kernel_rfl) (by kernel_rfl) (fun _ _ _ h => h) (Or.inl ⟨by rfl, ?hy0⟩) hS ?rest0
  case hy0 => (intro wz hSw; (try dsimp only at hSw); go_simp; try with_reducible rfl)
  try simp only [Act.put, List.setIfInBounds_toArray, List.set_cons_zero, List.set_cons_succ]
  refine' wpAnyH_take (i := 2) (oi := ⟨_, _, _, _, _, _⟩) (v := _) rfl (by kernel_rfl) (by kernel_rfl) (by kernel_rfl) (fun _ _ _ h => h) (Or.inl ⟨by rfl, ?hy2⟩) hS ?rest2
  case hy2 => (intro wz hSw; (try dsimp only at hSw); go_simp; try with_reducible rfl)
  try simp only [Act.put, List.setIfInBounds_toArray, List.set_cons_zero, List.set_cons_succ]
  refine wpAnyH_ready (rs := [1]) (by kernel_rfl) (by simp) (AllReadyH.cons rfl (fun K hK => ?_) AllReadyH.nil)
  go_simp
  refine (hpair.out _).mono ?_
  rintro e w1 ⟨rfl, hb1⟩
  have hW1 := Lib.hid ((drewN_below w 1).trans (hb1.mono (Nat.le_refl _)))
  clear hb1
  go_wp2_with fail
  refine hK.out _ _ (held_below hh.out hW1.out hg.out) (fun hSn => ?_)
  clear hS
  have hS := hSn
  clear hSn
  clear hK K
  try simp only [Act.put, List.setIfInBounds_toArray, List.set_cons_zero, List.set_cons_succ]
  refine wpAnyH_ready (rs := [3]) (by kernel_rfl) (by simp) (AllReadyH.cons rfl (fun K hK => ?_) AllReadyH.nil)
  go_simp
  refine (hbef.out _).mono ?_
  rintro e w2 ⟨rfl, hb2⟩
  have hW2 := Lib.hid (hW1.out.trans (hb2.mono hW1.out.size))
  clear hb2
  go_wp2_with fail
  refine hK.out _ _ (held_below hh.out hW2.out hg.out) (fun hSn => ?_)
  clear hS
  have hS := hSn
  clear hSn
  clear hK K
  try simp only [Act.put, List.setIfInBounds_toArray, List.set_cons_zero, List.set_cons_succ]
  refine' wpAnyH_take (i := 4) (oi := ⟨_, _, _, _, _, _⟩) (v := _) rfl (by kernel_rfl) (by kernel_rfl) (by kernel_rfl) (fun _ _ _ h => h) (Or.inl ⟨by rfl, ?hy4⟩) hS ?rest4
  case hy4 => (intro wz hSw; (try dsimp only at hSw); go_simp; try with_reducible rfl)
  try simp only [Act.put, List.setIfInBounds_toArray, List.set_cons_zero, List.set_cons_succ]
  refine' wpAnyH_take (i := 5) (oi := ⟨_, _, _, _, _, _⟩) (v := _) rfl (by kernel_rfl) (by kernel_rfl) (by kernel_rfl) (fun _ _ _ h => h) (Or.inl ⟨by rfl, ?hy5⟩) hS ?rest5
  case hy5 => (intro wz hSw; (try dsimp only at hSw); go_simp; try with_reducible rfl)
  try simp only [Act.put, List.setIfInBounds_toArray, List.set_cons_zero, List.set_cons_succ]
  refine wpAnyH_done (by kernel_rfl) ?_ _
  all_goals go_wp2_with fail
  go_ret
  exact ⟨rfl, hW2.out⟩

set_option maxHeartbeats 1600000 in
theorem search_is (a b : Int) (g : Nat) (w : World) (hg : g < w.heap.size) (hh : Held a b g w) :
    Calls Tryd.prog 51 #[.int .i64 307, .func (.func 52) #[] #[.pointer (some ⟨g, 0, none⟩)]] w fun e w' => e = .returned (.int .i64 (Par.posJ Par.T a b : Nat)) ∧ Below w.heap.size w w' := by
  have hpl := Par.posJ_le Par.T a b
  rw [Par.rows] at hpl
  have hlt := fun k hk => Par.posJ_lt_iff Par.up a b k hk
  obtain ⟨p, hp⟩ : ∃ p, Par.posJ Par.T a b = p := ⟨_, rfl⟩
  rw [hp] at hpl hlt ⊢
  replace hlt := Lib.hid hlt
  replace hp := Lib.hid hp
  replace hh := Lib.hid hh
  replace hg := Lib.hid hg
  go_enter Tryd.func51, Tryd.ntmps51
  go_wp2_with fail
  go_loopg [5, 6] 307 (fun n i j wr => ∃ x y : Nat, i = .int .i64 x ∧ j = .int .i64 y ∧ x ≤ p ∧ p ≤ y ∧ y ≤ 307 ∧ n = y - x ∧ Below w.heap.size w wr)
  case atStart => exact ⟨0, 307, rfl, rfl, Nat.zero_le _, hpl, Nat.le_refl _, rfl, Below.refl _ _⟩
  case round =>
    obtain ⟨x, y, rfl, rfl, hx, hy, hyl, rfl, hbel⟩ := hrel
    by_cases hxy : x < y
    · have hxy' : (x : Int) < (y : Int) := by omega
      have hk : (x + y) / 2 < 307 := by omega
      have hkT : (x + y) / 2 < Par.T.length := by rw [Par.rows]; exact hk
      have hl := hlt.out _ hkT
      have hnb := notBefore_is a b _ hk _ _ rfl rfl g wr (Nat.lt_of_lt_of_le hg.out hbel.size) (held_below hh.out hbel hg.out)
      obtain ⟨z, hz⟩ : ∃ z, Par.ltK (Par.T[(x + y) / 2]'hkT).1 (Par.T[(x + y) / 2]'hkT).2.1 a b = z := ⟨_, rfl⟩
      rw [hz] at hl hnb
      replace hnb := Lib.hid hnb
      replace hbel := Lib.hid hbel
      clear hz
      cases z with
      | true =>
        have hkp := hl.1 rfl
        clear hl
        go_wp2_with fail
        refine hnb.out.mono ?_
        rintro e w1 ⟨rfl, hb⟩
        replace hb := Lib.hid (hbel.out.trans (hb.mono hbel.out.size))
        go_wp2_with fail
        go_roundg (y - ((x + y) / 2 + 1))
        case measure => omega
        case rel => exact ⟨(x + y) / 2 + 1, y, by go_num, rfl, by omega, hy, hyl, rfl, hb.out⟩
      | false =>
        have hkp : ¬ (x + y) / 2 < p := fun h => absurd (hl.2 h) (by simp)
        clear hl
        go_wp2_with fail
        refine hnb.out.mono ?_
        rintro e w1 ⟨rfl, hb⟩
        replace hb := Lib.hid (hbel.out.trans (hb.mono hbel.out.size))
        go_wp2_with fail
        go_roundg ((x + y) / 2 - x)
        case measure => omega
        case rel => exact ⟨x, (x + y) / 2, rfl, by go_num, hx, by omega, by omega, rfl, hb.out⟩
    · obtain rfl : x = p := by omega
      have hxy' : decide ((x : Int) < (y : Int)) = false := by simp; omega
      replace hbel := Lib.hid hbel
      go_wp2_with fail
      go_ret
      exact ⟨rfl, hbel.out⟩

/-- two pairs are the same where both values are -/
theorem eqTwo (a b c d : Int) (w : World) : (Op.equalIn 10000 56 (.agg #[.int .i64 a, .int .i64 b]) (.agg #[.int .i64 c, .int .i64 d])).run Tryd.prog w = .ok (decide (a = c ∧ b = d)) w := by
  have u3 := Tryd.underlying3
  have a3 := Tryd.isAgg3
  have z3 := Tryd.sizeOf3
  rw [show (10000 : Nat) = 9999 + 1 from rfl, Op.equalIn]
  simp only [Sem.run_bind, run_underlying Tryd.underlying56, Result.andThen_ok]
  simp only [Std.Legacy.Range.forIn_eq_forIn_range', Std.Legacy.Range.size, Nat.sub_zero, Nat.add_sub_cancel, Nat.div_one, List.range'_succ, List.range'_zero, List.forIn_cons, List.forIn_nil]
  go_simp
  by_cases h1 : a = c <;> by_cases h2 : b = d <;> simp [h1, h2]

set_option maxHeartbeats 3200000 in
theorem pfind_is (a b : Int) (w : World) :
    Calls Tryd.prog 39 #[.agg #[.int .i64 a, .int .i64 b]] w fun e w' => e = .returned (optI (Par.lookJ Par.T a b)) ∧ Below w.heap.size w w' := by
  have hb0 := blk_new w #[.int .i64 a, .int .i64 b] 56
  have hheld : Held a b w.heap.size (w.alloc (.cells #[.int .i64 a, .int .i64 b] 56)) := ⟨blk_cell hb0 0 _ rfl, blk_cell hb0 1 _ rfl⟩
  have hsrch := search_is a b w.heap.size _ (by simp) hheld
  have hpl := Par.posJ_le Par.T a b
  rw [Par.rows] at hpl
  have hyes := Par.lookJ_yes Par.up a b
  have hno := Par.lookJ_no Par.up a b
  obtain ⟨p, hp⟩ : ∃ p, Par.posJ Par.T a b = p := ⟨_, rfl⟩
  simp only [hp] at hpl hyes hno hsrch
  replace hp := Lib.hid hp
  replace hsrch := Lib.hid hsrch
  replace hheld := Lib.hid hheld
  clear hb0
  by_cases hlt : p < 307
  · have hpT : p < Par.T.length := by rw [Par.rows]; exact hlt
    have hne : ((p : Int) == 307) = false := beq_eq_false_iff_ne.2 (by omega)
    have hpair := Lib.hid (pair_is p hlt _ _ rfl rfl)
    have hnum := Lib.hid (number_is p 2 hlt (by omega) _ rfl)
    replace hyes := hyes hpT
    have hno' : ¬ ((Par.T[p]'hpT).1 = a ∧ (Par.T[p]'hpT).2.1 = b) → Par.lookJ Par.T a b = none := fun h => hno fun _ => h
    unfold Par.nth at hnum
    simp only [show ¬ (2 = 0) by decide, show ¬ (2 = 1) by decide, if_false] at hnum
    obtain ⟨⟨x, y, z⟩, hr⟩ : ∃ r, Par.T[p]'hpT = r := ⟨_, rfl⟩
    simp only [hr] at hpair hnum hyes hno'
    clear hno hr
    by_cases hxy : x = a ∧ y = b
    · have hres := hyes hxy.1 hxy.2
      obtain ⟨hxa, hyb⟩ := hxy
      rw [hres]
      clear hyes hno' hres
      subst hxa hyb
      have heq := eqTwo x y x y
      rw [decide_eq_true ⟨rfl, rfl⟩] at heq
      go_enter Tryd.func39, Tryd.ntmps39
      go_wp2_with fail
      refine hsrch.out.mono ?_
      rintro e w1 ⟨rfl, hb1⟩
      have hk1 := Lib.hid (held_below hheld.out hb1 (by simp))
      have hg1 := Lib.hid (show w.heap.size < w1.heap.size from Nat.lt_of_lt_of_le (by simp) hb1.size)
      replace hb1 := Lib.hid (below_in hb1)
      go_wp2_with fail
      refine wp_region_held_drew (S := fun w' => w'.cell? ⟨w.heap.size, 0, none⟩ = some (.int .i64 x) ∧ w'.cell? ⟨w.heap.size, 1, none⟩ = some (.int .i64 y)) (by kernel_rfl) (hk1.out) (fun hS => ?_)
      refine' wpAnyH_take (i := 0) (oi := ⟨_, _, _, _, _, _⟩) (v := _) rfl (by kernel_rfl) (by kernel_rfl) (by kernel_rfl) (fun _ _ _ h => h) (Or.inl ⟨by rfl, ?hyyes0⟩) hS ?restyes0
      case hyyes0 => (intro wz hSw; (try dsimp only at hSw); go_simp; try with_reducible rfl)
      try simp only [Act.put, List.setIfInBounds_toArray, List.set_cons_zero, List.set_cons_succ]
      refine' wpAnyH_take (i := 1) (oi := ⟨_, _, _, _, _, _⟩) (v := _) rfl (by kernel_rfl) (by kernel_rfl) (by kernel_rfl) (fun _ _ _ h => h) (Or.inl ⟨by rfl, ?hyyes1⟩) hS ?restyes1
      case hyyes1 => (intro wz hSw; (try dsimp only at hSw); go_simp; try with_reducible rfl)
      try simp only [Act.put, List.setIfInBounds_toArray, List.set_cons_zero, List.set_cons_succ]
      refine' wpAnyH_take (i := 2) (oi := ⟨_, _, _, _, _, _⟩) (v := _) rfl (by kernel_rfl) (by kernel_rfl) (by kernel_rfl) (fun _ _ _ h => h) (Or.inl ⟨by rfl, ?hyyes2⟩) hS ?restyes2
      case hyyes2 => (intro wz hSw; (try dsimp only at hSw); go_simp; try with_reducible rfl)
      try simp only [Act.put, List.setIfInBounds_toArray, List.set_cons_zero, List.set_cons_succ]
      refine' wpAnyH_take (i := 3) (oi := ⟨_, _, _, _, _, _⟩) (v := _) rfl (by kernel_rfl) (by kernel_rfl) (by kernel_rfl) (fun _ _ _ h => h) (Or.inl ⟨by rfl, ?hyyes3⟩) hS ?restyes3
      case hyyes3 => (intro wz hSw; (try dsimp only at hSw); go_simp; try with_reducible rfl)
      try simp only [Act.put, List.setIfInBounds_toArray, List.set_cons_zero, List.set_cons_succ]
      refine' wpAnyH_take (i := 5) (oi := ⟨_, _, _, _, _, _⟩) (v := _) rfl (by kernel_rfl) (by kernel_rfl) (by kernel_rfl) (fun _ _ _ h => h) (Or.inl ⟨by rfl, ?hyyes5⟩) hS ?restyes5
      case hyyes5 => (intro wz hSw; (try dsimp only at hSw); go_simp; try with_reducible rfl)
      try simp only [Act.put, List.setIfInBounds_toArray, List.set_cons_zero, List.set_cons_succ]
      refine wpAnyH_ready (rs := [4]) (by kernel_rfl) (by simp) (AllReadyH.cons rfl (fun K hK => ?_) AllReadyH.nil)
      go_simp
      refine (hpair.out _).mono ?_
      rintro e w2 ⟨rfl, hb2⟩
      have hW2 := Lib.hid ((drewN_below w1 1).trans (hb2.mono (Nat.le_refl _)))
      clear hb2
      go_wp2_with fail
      refine hK.out _ _ (held_below hk1.out hW2.out hg1.out) (fun hSn => ?_)
      clear hS
      have hS := hSn
      clear hSn
      clear hK K
      try simp only [Act.put, List.setIfInBounds_toArray, List.set_cons_zero, List.set_cons_succ]
      refine' wpAnyH_take (i := 6) (oi := ⟨_, _, _, _, _, _⟩) (v := _) rfl (by kernel_rfl) (by kernel_rfl) (by kernel_rfl) (fun _ _ _ h => h) (Or.inl ⟨by rfl, ?hyyes6⟩) hS ?restyes6
      case hyyes6 => (intro wz hSw; (try dsimp only at hSw); go_simp; try with_reducible rfl)
      try simp only [Act.put, List.setIfInBounds_toArray, List.set_cons_zero, List.set_cons_succ]
      refine' wpAnyH_take (i := 7) (oi := ⟨_, _, _, _, _, _⟩) (v := _) rfl (by kernel_rfl) (by kernel_rfl) (by kernel_rfl) (fun _ _ _ h => h) (Or.inl ⟨by rfl, ?hyyes7⟩) hS ?restyes7
      case hyyes7 => (intro wz hSw; (try dsimp only at hSw); go_simp; try with_reducible rfl)
      try simp only [Act.put, List.setIfInBounds_toArray, List.set_cons_zero, List.set_cons_succ]
      refine wpAnyH_done (by kernel_rfl) ?_ _
      all_goals go_wp2_with fail
      refine (hnum.out _).mono ?_
      rintro e w3 ⟨rfl, hb3⟩
      have hW3 := Lib.hid (hb1.out.trans ((hW2.out.trans (hb3.mono hW2.out.size)).mono hb1.out.size))
      clear hb3
      go_wp2_with fail
      go_ret2
      exact ⟨rfl, hW3.out⟩
    · have hres := hno' hxy
      rw [hres]
      clear hyes hno' hres hnum
      have heq := eqTwo x y a b
      rw [decide_eq_false hxy] at heq
      clear hxy
      go_enter Tryd.func39, Tryd.ntmps39
      go_wp2_with fail
      refine hsrch.out.mono ?_
      rintro e w1 ⟨rfl, hb1⟩
      have hk1 := Lib.hid (held_below hheld.out hb1 (by simp))
      have hg1 := Lib.hid (show w.heap.size < w1.heap.size from Nat.lt_of_lt_of_le (by simp) hb1.size)
      replace hb1 := Lib.hid (below_in hb1)
      go_wp2_with fail
      refine wp_region_held_drew (S := fun w' => w'.cell? ⟨w.heap.size, 0, none⟩ = some (.int .i64 a) ∧ w'.cell? ⟨w.heap.size, 1, none⟩ = some (.int .i64 b)) (by kernel_rfl) (hk1.out) (fun hS => ?_)
      refine' wpAnyH_take (i := 0) (oi := ⟨_, _, _, _, _, _⟩) (v := _) rfl (by kernel_rfl) (by kernel_rfl) (by kernel_rfl) (fun _ _ _ h => h) (Or.inl ⟨by rfl, ?hyno0⟩) hS ?restno0
      case hyno0 => (intro wz hSw; (try dsimp only at hSw); go_simp; try with_reducible rfl)
      try simp only [Act.put, List.setIfInBounds_toArray, List.set_cons_zero, List.set_cons_succ]
      refine' wpAnyH_take (i := 1) (oi := ⟨_, _, _, _, _, _⟩) (v := _) rfl (by kernel_rfl) (by kernel_rfl) (by kernel_rfl) (fun _ _ _ h => h) (Or.inl ⟨by rfl, ?hyno1⟩) hS ?restno1
      case hyno1 => (intro wz hSw; (try dsimp only at hSw); go_simp; try with_reducible rfl)
      try simp only [Act.put, List.setIfInBounds_toArray, List.set_cons_zero, List.set_cons_succ]
      refine' wpAnyH_take (i := 2) (oi := ⟨_, _, _, _, _, _⟩) (v := _) rfl (by kernel_rfl) (by kernel_rfl) (by kernel_rfl) (fun _ _ _ h => h) (Or.inl ⟨by rfl, ?hyno2⟩) hS ?restno2
      case hyno2 => (intro wz hSw; (try dsimp only at hSw); go_simp; try with_reducible rfl)
      try simp only [Act.put, List.setIfInBounds_toArray, List.set_cons_zero, List.set_cons_succ]
      refine' wpAnyH_take (i := 3) (oi := ⟨_, _, _, _, _, _⟩) (v := _) rfl (by kernel_rfl) (by kernel_rfl) (by kernel_rfl) (fun _ _ _ h => h) (Or.inl ⟨by rfl, ?hyno3⟩) hS ?restno3
      case hyno3 => (intro wz hSw; (try dsimp only at hSw); go_simp; try with_reducible rfl)
      try simp only [Act.put, List.setIfInBounds_toArray, List.set_cons_zero, List.set_cons_succ]
      refine' wpAnyH_take (i := 5) (oi := ⟨_, _, _, _, _, _⟩) (v := _) rfl (by kernel_rfl) (by kernel_rfl) (by kernel_rfl) (fun _ _ _ h => h) (Or.inl ⟨by rfl, ?hyno5⟩) hS ?restno5
      case hyno5 => (intro wz hSw; (try dsimp only at hSw); go_simp; try with_reducible rfl)
      try simp only [Act.put, List.setIfInBounds_toArray, List.set_cons_zero, List.set_cons_succ]
      refine wpAnyH_ready (rs := [4]) (by kernel_rfl) (by simp) (AllReadyH.cons rfl (fun K hK => ?_) AllReadyH.nil)
      go_simp
      refine (hpair.out _).mono ?_
      rintro e w2 ⟨rfl, hb2⟩
      have hW2 := Lib.hid ((drewN_below w1 1).trans (hb2.mono (Nat.le_refl _)))
      clear hb2
      go_wp2_with fail
      refine hK.out _ _ (held_below hk1.out hW2.out hg1.out) (fun hSn => ?_)
      clear hS
      have hS := hSn
      clear hSn
      clear hK K
      try simp only [Act.put, List.setIfInBounds_toArray, List.set_cons_zero, List.set_cons_succ]
      refine' wpAnyH_take (i := 6) (oi := ⟨_, _, _, _, _, _⟩) (v := _) rfl (by kernel_rfl) (by kernel_rfl) (by kernel_rfl) (fun _ _ _ h => h) (Or.inl ⟨by rfl, ?hyno6⟩) hS ?restno6
      case hyno6 => (intro wz hSw; (try dsimp only at hSw); go_simp; try with_reducible rfl)
      try simp only [Act.put, List.setIfInBounds_toArray, List.set_cons_zero, List.set_cons_succ]
      refine' wpAnyH_take (i := 7) (oi := ⟨_, _, _, _, _, _⟩) (v := _) rfl (by kernel_rfl) (by kernel_rfl) (by kernel_rfl) (fun _ _ _ h => h) (Or.inl ⟨by rfl, ?hyno7⟩) hS ?restno7
      case hyno7 => (intro wz hSw; (try dsimp only at hSw); go_simp; try with_reducible rfl)
      try simp only [Act.put, List.setIfInBounds_toArray, List.set_cons_zero, List.set_cons_succ]
      refine wpAnyH_done (by kernel_rfl) ?_ _
      all_goals go_wp2_with fail
      go_ret2
      exact ⟨rfl, hb1.out.trans (hW2.out.mono hb1.out.size)⟩
  · have hres := hno fun h => absurd (show p < 307 by rw [← Par.rows]; exact h) hlt
    have hpe : p = 307 := by omega
    subst hpe
    rw [hres]
    clear hres hno hyes
    go_enter Tryd.func39, Tryd.ntmps39
    go_wp2_with fail
    refine hsrch.out.mono ?_
    rintro e w1 ⟨rfl, hb1⟩
    replace hb1 := Lib.hid (below_in hb1)
    go_wp2_with fail
    refine wp_region_held_drew (S := fun _ => True) (by kernel_rfl) (trivial) (fun hS => ?_)
    refine' wpAnyH_take (i := 0) (oi := ⟨_, _, _, _, _, _⟩) (v := _) rfl (by kernel_rfl) (by kernel_rfl) (by kernel_rfl) (fun _ _ _ h => h) (Or.inl ⟨by rfl, ?hyend0⟩) hS ?restend0
    case hyend0 => (intro wz hSw; (try dsimp only at hSw); go_simp; try with_reducible rfl)
    try simp only [Act.put, List.setIfInBounds_toArray, List.set_cons_zero, List.set_cons_succ]
    refine' wpAnyH_take (i := 1) (oi := ⟨_, _, _, _, _, _⟩) (v := _) rfl (by kernel_rfl) (by kernel_rfl) (by kernel_rfl) (fun _ _ _ h => h) (Or.inl ⟨by rfl, ?hyend1⟩) hS ?restend1
    case hyend1 => (intro wz hSw; (try dsimp only at hSw); go_simp; try with_reducible rfl)
    try simp only [Act.put, List.setIfInBounds_toArray, List.set_cons_zero, List.set_cons_succ]
    refine' wpAnyH_take (i := 2) (oi := ⟨_, _, _, _, _, _⟩) (v := _) rfl (by kernel_rfl) (by kernel_rfl) (by kernel_rfl) (fun _ _ _ h => h) (Or.inl ⟨by rfl, ?hyend2⟩) hS ?restend2
    case hyend2 => (intro wz hSw; (try dsimp only at hSw); go_simp; try with_reducible rfl)
    try simp only [Act.put, List.setIfInBounds_toArray, List.set_cons_zero, List.set_cons_succ]
    refine' wpAnyH_take (i := 3) (oi := ⟨_, _, _, _, _, _⟩) (v := undef) rfl (by kernel_rfl) (by kernel_rfl) (by kernel_rfl) (fun _ _ _ h => h) (Or.inr ⟨by rfl, rfl⟩) hS ?restend3
    try simp only [Act.put, List.setIfInBounds_toArray, List.set_cons_zero, List.set_cons_succ]
    refine' wpAnyH_take (i := 4) (oi := ⟨_, _, _, _, _, _⟩) (v := undef) rfl (by kernel_rfl) (by kernel_rfl) (by kernel_rfl) (fun _ _ _ h => h) (Or.inr ⟨by rfl, rfl⟩) hS ?restend4
    try simp only [Act.put, List.setIfInBounds_toArray, List.set_cons_zero, List.set_cons_succ]
    refine' wpAnyH_take (i := 5) (oi := ⟨_, _, _, _, _, _⟩) (v := undef) rfl (by kernel_rfl) (by kernel_rfl) (by kernel_rfl) (fun _ _ _ h => h) (Or.inr ⟨by rfl, rfl⟩) hS ?restend5
    try simp only [Act.put, List.setIfInBounds_toArray, List.set_cons_zero, List.set_cons_succ]
    refine' wpAnyH_take (i := 6) (oi := ⟨_, _, _, _, _, _⟩) (v := undef) rfl (by kernel_rfl) (by kernel_rfl) (by kernel_rfl) (fun _ _ _ h => h) (Or.inr ⟨by rfl, rfl⟩) hS ?restend6
    try simp only [Act.put, List.setIfInBounds_toArray, List.set_cons_zero, List.set_cons_succ]
    refine' wpAnyH_take (i := 7) (oi := ⟨_, _, _, _, _, _⟩) (v := _) rfl (by kernel_rfl) (by kernel_rfl) (by kernel_rfl) (fun _ _ _ h => h) (Or.inl ⟨by rfl, ?hyend7⟩) hS ?restend7
    case hyend7 => (intro wz hSw; (try dsimp only at hSw); go_simp; try with_reducible rfl)
    try simp only [Act.put, List.setIfInBounds_toArray, List.set_cons_zero, List.set_cons_succ]
    refine wpAnyH_done (by kernel_rfl) ?_ _
    all_goals go_wp2_with fail
    go_ret2
    exact ⟨rfl, hb1.out.trans ((drewN_below w1 1).mono hb1.out.size)⟩

end Go.Proofs.YtkhjkodeolaemaaDoor
