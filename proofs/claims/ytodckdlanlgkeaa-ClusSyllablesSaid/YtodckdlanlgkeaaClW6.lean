/- Layer 11: the walk of ClusSyllables. -/
import Derived.Test.YtodckdlanlgkeaaClW0
import Derived.Test.YtodckdlanlgkeaaBasP
import Derived.Deep.LoopGhost
import Derived.Deep.DeepCutAuto
namespace Go.Proofs.Ytodckdlanlgkeaa
set_option linter.unusedSimpArgs false
set_option linter.unusedVariables false
open Go.RowKit Go.Lib

theorem mod_of (a m : Int) (hm : 0 < m) : ∃ x, (bits .and .i64 a 65535).tmod m = x ∧ 0 ≤ x ∧ x < m := by
  have h0 : 0 ≤ a % 65536 % m := Int.emod_nonneg _ (by omega)
  have h1 : a % 65536 % m < m := Int.emod_lt_of_pos _ hm
  refine ⟨_, rfl, ?_⟩
  rw [and65535, Int.tmod_eq_emod_of_nonneg (by omega)]
  exact ⟨h0, h1⟩

theorem kindL (x : Int) (h0 : 0 ≤ x) (h1 : x < 19) : Prp.gcbI (4352 + x) = 9 := by
  have h : ∀ k : Fin 19, Prp.gcbI (4352 + (k.1 : Int)) = 9 := by decide +kernel
  have := h ⟨x.toNat, by omega⟩
  rwa [show ((x.toNat : Nat) : Int) = x by omega] at this
theorem kindV (x : Int) (h0 : 0 ≤ x) (h1 : x < 21) : Prp.gcbI (4449 + x) = 10 := by
  have h : ∀ k : Fin 21, Prp.gcbI (4449 + (k.1 : Int)) = 10 := by decide +kernel
  have := h ⟨x.toNat, by omega⟩
  rwa [show ((x.toNat : Nat) : Int) = x by omega] at this
theorem kindT (x : Int) (h0 : 0 ≤ x) (h1 : x < 27) : Prp.gcbI (4519 + (x + 1)) = 11 := by
  have h : ∀ k : Fin 27, Prp.gcbI (4519 + ((k.1 : Int) + 1)) = 11 := by decide +kernel
  have := h ⟨x.toNat, by omega⟩
  rwa [show ((x.toNat : Nat) : Int) = x by omega] at this
theorem kindLV (x y : Int) (h0 : 0 ≤ x) (h1 : x < 19) (h2 : 0 ≤ y) (h3 : y < 21) : Prp.gcbI (44032 + (x * 21 + y) * 28) = 12 := by
  unfold Prp.gcbI
  rw [if_pos (by omega), if_pos (by omega)]
theorem kindLVT (x y z : Int) (h0 : 0 ≤ x) (h1 : x < 19) (h2 : 0 ≤ y) (h3 : y < 21) (h4 : 0 ≤ z) (h5 : z < 27) : Prp.gcbI (44032 + (x * 21 + y) * 28 + (z + 1)) = 13 := by
  unfold Prp.gcbI
  rw [if_pos (by omega), if_neg (by omega)]

set_option maxHeartbeats 6400000 in
set_option maxRecDepth 100000 in
theorem clusSyllables_walk (hS : SaneC11) (hE : EndsC11) (hN : NextC11) (hC : CutsC11) (a b c : Int) (w : World) (_ : -9223372036854775808 ≤ a ∧ a ≤ 9223372036854775807) (_ : -9223372036854775808 ≤ b ∧ b ≤ 9223372036854775807) (_ : -9223372036854775808 ≤ c ∧ c ≤ 9223372036854775807) :
    Calls Try.prog 8 #[.int .i64 a, .int .i64 b, .int .i64 c] w fun e w' => e = .returned (.bool true) ∧ Below w.heap.size w w' := by
  have hawake := Lib.hid (awake11 hS hE hN hC)
  obtain ⟨x, hx, hx0, hx1⟩ := mod_of a 19 (by omega)
  obtain ⟨y, hy, hy0, hy1⟩ := mod_of b 21 (by omega)
  obtain ⟨z, hz, hz0, hz1⟩ := mod_of c 27 (by omega)
  have hk : ([4352 + x, 4449 + y, 4519 + (z + 1), 44032 + (x * 21 + y) * 28, 4519 + (z + 1), 44032 + (x * 21 + y) * 28 + (z + 1), 4352 + x, 44032 + (x * 21 + y) * 28] : List Int).map Prp.gcbI = Clu.sylKinds := by
    simp only [List.map_cons, List.map_nil, kindL x hx0 hx1, kindV y hy0 hy1, kindT z hz0 hz1, kindLV x y hx0 hx1 hy0 hy1, kindLVT x y z hx0 hx1 hy0 hy1 hz0 hz1]
    rfl
  have hcut := Lib.hid (fun V W h => cuts_of11 hC (v := V) (w := W) (Clu.syl_cuts hk) (by simp) h)
  clear hk hS hE hN hC
  go_enter Try.func8, Try.ntmps8
  go_wp2_with fail
  refine (hawake.out w).mono ?_
  rintro e w1 ⟨rfl, b1⟩
  replace b1 := Lib.hid b1
  go_upto_region 8 with (fail)
  have n1 := below_new w1 (.cells #[.int .i64 (4352 + x), .int .i64 (4449 + y), .int .i64 (4519 + (z + 1)), .int .i64 (44032 + (x * 21 + y) * 28), .int .i64 (4519 + (z + 1)), .int .i64 (44032 + (x * 21 + y) * 28 + (z + 1)), .int .i64 (4352 + x), .int .i64 (44032 + (x * 21 + y) * 28)] 3)
  have l1 := ri_of_own (ownI_lit w1.heap.size w1 [4352 + x, 4449 + y, 4519 + (z + 1), 44032 + (x * 21 + y) * 28, 4519 + (z + 1), 44032 + (x * 21 + y) * 28 + (z + 1), 4352 + x, 44032 + (x * 21 + y) * 28] #[.int .i64 (4352 + x), .int .i64 (4449 + y), .int .i64 (4519 + (z + 1)), .int .i64 (44032 + (x * 21 + y) * 28), .int .i64 (4519 + (z + 1)), .int .i64 (44032 + (x * 21 + y) * 28 + (z + 1)), .int .i64 (4352 + x), .int .i64 (44032 + (x * 21 + y) * 28)] w1.heap.size 8 rfl (Nat.le_refl _) rfl rfl (by unfold maxLen; omega))
  have b2 := below_on b1.out n1
  obtain ⟨w2, hw2⟩ : ∃ W, w1.alloc (.cells #[.int .i64 (4352 + x), .int .i64 (4449 + y), .int .i64 (4519 + (z + 1)), .int .i64 (44032 + (x * 21 + y) * 28), .int .i64 (4519 + (z + 1)), .int .i64 (44032 + (x * 21 + y) * 28 + (z + 1)), .int .i64 (4352 + x), .int .i64 (44032 + (x * 21 + y) * 28)] 3) = W := ⟨_, rfl⟩
  rw [hw2] at l1 b2 ⊢
  have n2 := below_new w2 (.cells #[.bool false, .bool false, .bool false, .bool true, .bool false, .bool true, .bool true, .bool false] 4)
  have t2 := rt_of_own (ownT_lit w2.heap.size w2 [false, false, false, true, false, true, true, false] #[.bool false, .bool false, .bool false, .bool true, .bool false, .bool true, .bool true, .bool false] w2.heap.size 8 rfl (Nat.le_refl _) rfl rfl (by unfold maxLen; omega))
  have hsz : w2.heap.size = w1.heap.size + 1 := by rw [← hw2]; simp
  rw [hsz] at t2
  replace l1 := ri_below l1 n2
  replace b2 := below_on b2 n2
  obtain ⟨w3, hw3⟩ : ∃ W, w2.alloc (.cells #[.bool false, .bool false, .bool false, .bool true, .bool false, .bool true, .bool true, .bool false] 4) = W := ⟨_, rfl⟩
  rw [hw3] at l1 b2 t2 ⊢
  clear n1 n2 hw2 hw3 b1
  replace hsz := Lib.hid hsz
  replace l1 := Lib.hid l1
  replace b2 := Lib.hid b2
  replace t2 := Lib.hid t2
  obtain ⟨T8, hT8⟩ : ∃ T, [false, false, false, true, false, true, true, false] = T := ⟨_, rfl⟩
  have hT8l : T8.length = 8 := by rw [← hT8]; rfl
  rw [hT8] at hcut t2
  have ht8' := Lib.hid hT8l
  clear hT8
  go_wp2_with fail
  refine (hcut.out _ _ l1.out).mono ?_
  rintro e w4 ⟨v, rfl, hv, q4⟩
  obtain ⟨p4, c4, rfl⟩ := rt_form hv
  have t4 := rt_below t2.out q4
  have b4 := Lib.hid (below_on b2.out q4)
  rw [hT8l] at hv ⊢
  replace hv := Lib.hid hv
  replace t4 := Lib.hid t4
  clear q4 t2 b2 l1 hT8l
  go_wp2_with fail
  go_loopg [15] 8 (fun g vi wy => ∃ j n : Nat, j ≤ 8 ∧ vi = .int .i64 j ∧ g = 8 - j ∧ wy = w4.drewN n)
  case atStart => exact ⟨0, 0, Nat.zero_le _, rfl, rfl, rfl⟩
  case round =>
    obtain ⟨j, n, hj, rfl, rfl, rfl⟩ := hrel
    by_cases hj8 : j < 8
    · have hj1 : (j : Int) < 8 := by omega
      have hj2 : j < T8.length := by have := ht8'.out; omega
      obtain ⟨bo, oo, rfl, _, h1⟩ := rt_at hv.out (by omega)
      obtain ⟨bc, oc, hbc, _, h2⟩ := rt_at t4.out (by omega)
      simp only [Option.some.injEq, Addr.mk.injEq] at hbc
      obtain ⟨rfl, rfl, _⟩ := hbc
      obtain ⟨x8, hx8⟩ : ∃ x, T8[j] = x := ⟨_, rfl⟩
      have k1 : w4.cell? ⟨bo, oo + j, none⟩ = some (.bool x8) := by rw [← hx8]; exact h1 j hj2
      have k2 : w4.cell? ⟨w1.heap.size + 1, j, none⟩ = some (.bool x8) := by rw [← hx8]; have := h2 j hj2; rwa [Nat.zero_add] at this
      have f1 : (x8 == x8) = true := by simp
      have f2 : (x8 != x8) = false := by simp
      clear h1 h2 hx8
      go_wp2_with fail
      go_quiet (fail)
      go_wp2_with fail
      go_roundg (8 - (j + 1))
      case measure => omega
      case rel => exact ⟨j + 1, _, by omega, by go_num, rfl, by first | rfl | exact World.drewN_drewN _ _ _⟩
    · obtain rfl : j = 8 := by omega
      have bE := Lib.hid (below_on b4.out (drewN_below w4 n))
      go_wp2_with fail
      go_ret
      exact ⟨rfl, bE.out⟩

end Go.Proofs.Ytodckdlanlgkeaa
