/- Layer 11: the walk of ClusFlags. -/
import Derived.Test.YtodckdlanlgkeaaClW6
import Derived.Test.YtodckdlanlgkeaaK7
namespace Go.Proofs.Ytodckdlanlgkeaa
set_option linter.unusedSimpArgs false
set_option linter.unusedVariables false
open Go.RowKit Go.Lib

/-- two slices of the call's own share no block -/
def Apart (u v : Value) : Prop := u.ownBlock = none ∨ u.ownBlock ≠ v.ownBlock
theorem apart_symm {u v : Value} (h : Apart u v) : Apart v u := by
  unfold Apart at *
  cases hv : v.ownBlock with
  | none => exact .inl rfl
  | some k =>
    rcases h with h | h
    · rw [h]; exact .inr (by simp)
    · rw [hv] at h; exact .inr (Ne.symm h)

theorem kindF (x : Int) (h0 : 0 ≤ x) (h1 : x < 26) : Prp.gcbI (127462 + x) = 6 := by
  have h : ∀ k : Fin 26, Prp.gcbI (127462 + (k.1 : Int)) = 6 := by decide +kernel
  have := h ⟨x.toNat, by omega⟩
  rwa [show ((x.toNat : Nat) : Int) = x by omega] at this
theorem kindP (x : Int) (h0 : 0 ≤ x) (h1 : x < 64) : Prp.gcbI (128512 + x) = 14 := by
  have h : ∀ k : Fin 64, Prp.gcbI (128512 + (k.1 : Int)) = 14 := by decide +kernel
  have := h ⟨x.toNat, by omega⟩
  rwa [show ((x.toNat : Nat) : Int) = x by omega] at this

def pairsI (y : Int) (k : Nat) : List Int := (List.replicate k [y, 0x200D]).flatten
theorem pairs_succ (y : Int) (k : Nat) : pairsI y (k + 1) = pairsI y k ++ [y, 0x200D] := by
  unfold pairsI
  rw [List.replicate_succ']
  simp
theorem pairs_len (y : Int) (k : Nat) : (pairsI y k).length = 2 * k := by
  induction k with
  | zero => rfl
  | succ k ih => rw [pairs_succ, List.length_append, ih]; simp; omega

set_option maxHeartbeats 12800000 in
set_option maxRecDepth 100000 in
theorem clusFlags_walk (hS : SaneC11) (hE : EndsC11) (hN : NextC11) (hC : CutsC11) (n a : Int) (w : World) (_ : -9223372036854775808 ≤ n ∧ n ≤ 9223372036854775807) (_ : -9223372036854775808 ≤ a ∧ a ≤ 9223372036854775807) :
    Calls Try.prog 6 #[.int .i64 n, .int .i64 a] w fun e w' => e = .returned (.bool true) ∧ Below w.heap.size w w' := by
  have hawake := Lib.hid (awake11 hS hE hN hC)
  obtain ⟨i0, hi, hz0, hz1, hz2⟩ := info_parts info_i
  obtain ⟨k, hk, hk64⟩ : ∃ k : Nat, bits .and .i64 n 63 = (k : Int) ∧ k < 64 := by
    refine ⟨(n % 64).toNat, ?_, by omega⟩
    rw [and63]
    omega
  obtain ⟨x0, hx, hx0, hx1⟩ := mod_of a 26 (by omega)
  obtain ⟨y0, hy, hy0, hy1⟩ := mod_of a 64 (by omega)
  have kF := kindF x0 hx0 hx1
  have kP := kindP y0 hy0 hy1
  have hflag := fun i h => Clu.flags_cut kF k i h
  have hpict := Clu.picts kP k Clu.zero (.inl rfl)
  have hcl := Clu.cuts_len Clu.zero (List.replicate k (127462 + x0))
  rw [List.length_replicate] at hcl
  have hc1 := fun V W h => cuts_of11 hC (v := V) (l := List.replicate k (127462 + x0)) (w := W) rfl (by simp; omega) h
  have hc2 := fun V W h => cuts_of11 hC (v := V) (l := pairsI (128512 + y0) k) (w := W) hpict (by rw [pairs_len]; omega) h
  obtain ⟨C, hCC⟩ : ∃ C, Clu.cutsI Clu.zero (List.replicate k (127462 + x0)) = C := ⟨_, rfl⟩
  have hget : ∀ i (h : i < C.length), C[i] = decide (0 < i ∧ i % 2 = 0) := by
    subst hCC
    intro i h
    exact hflag i (by omega)
  rw [hCC] at hc1 hcl
  replace hget := Lib.hid hget
  replace hc1 := Lib.hid hc1
  replace hc2 := Lib.hid hc2
  replace hcl := Lib.hid hcl
  clear hCC hflag hpict kF kP hS hE hN hC
  go_enter Try.func6, Try.ntmps6
  go_wp2_with fail
  refine (hawake.out w).mono ?_
  rintro e w1 ⟨rfl, b1⟩
  replace b1 := Lib.hid b1
  go_wp2_with fail
  go_loopg [7, 8, 9] k (fun g vl vp vi wr => ∃ j : Nat, j ≤ k ∧ vi = .int .i64 j ∧ g = k - j ∧ OwnI w.heap.size vl (List.replicate j (127462 + x0)) wr ∧ OwnI w.heap.size vp (pairsI (128512 + y0) j) wr ∧ Apart vl vp ∧ Below w.heap.size w wr)
  case atStart => exact ⟨0, Nat.zero_le _, rfl, rfl, ownI_nil _ _, ownI_nil _ _, .inl rfl, b1.out⟩
  case round =>
    obtain ⟨j, hj, rfl, rfl, hl, hp, hap, hbel⟩ := hrel
    by_cases hlt : j < k
    · have hlt' : (j : Int) < (k : Int) := by omega
      have e1 : List.replicate (j + 1) (127462 + x0) = List.replicate j (127462 + x0) ++ [127462 + x0] := List.replicate_succ'
      have e2 := pairs_succ (128512 + y0) j
      have n1 : (List.replicate j (127462 + x0)).length = j := List.length_replicate
      have n2 := pairs_len (128512 + y0) j
      obtain ⟨A, hA⟩ : ∃ A, List.replicate j (127462 + x0) = A := ⟨_, rfl⟩
      obtain ⟨B, hB⟩ : ∃ A, pairsI (128512 + y0) j = A := ⟨_, rfl⟩
      rw [hA] at hl e1 n1
      rw [hB] at hp e2 n2
      have hAl : A.length ≤ 64 := by omega
      have hBl : B.length ≤ 128 := by omega
      have o1 := Lib.hid (ownI_alloc hl (.cells #[.int .i64 (127462 + x0)] 3))
      have p1 := Lib.hid (ownI_alloc hp (.cells #[.int .i64 (127462 + x0)] 3))
      have d1 := Lib.hid (hbel.alloc hbel.size (.cells #[.int .i64 (127462 + x0)] 3))
      have s1 := Lib.hid (ri_src (ri_of_own (ownI_lit w.heap.size wr [127462 + x0] #[.int .i64 (127462 + x0)] wr.heap.size 1 rfl hbel.size rfl rfl (by unfold maxLen; omega))))
      replace e1 := Lib.hid e1
      replace e2 := Lib.hid e2
      replace hap := Lib.hid hap
      have hap2 := Lib.hid (apart_symm hap.out)
      clear n1 n2 hA hB hl hp hbel
      go_upto_region 9 with (at_builtin; refine wpList_append_src3 rfl _ _ 24 rfl w.heap.size 3 i0 (.int .i64 0) 8 Try.underlying24 hi hz0 hz1 hz2 rfl _ _ _ rfl o1.out _ _ rfl s1.out (oneCellI _) (by unfold maxLen; first | (simp; done) | (simp; omega)) (by first | (simp; done) | (simp; omega)) d1.out.size ?_; intro v2 w2 ho2 hg2 hl2; have o2 := Lib.hid (ownI_of_row (l := A ++ [127462 + x0]) ho2 (by simp) (by simp)); have d2 := Lib.hid (below_row d1.out hg2 d1.out.size o1.out (Nat.le_refl _)); have p2 := Lib.hid (World.ownsRow.kept p1.out hg2 hap2.out); have a2 := Lib.hid (lies_apart p1.out hap2.out hl2); clear ho2 hg2 hl2)
      have p3 := Lib.hid (ownI_alloc p2.out (.cells #[.int .i64 (128512 + y0), .int .i64 8205] 3))
      have o3 := Lib.hid (ownI_alloc o2.out (.cells #[.int .i64 (128512 + y0), .int .i64 8205] 3))
      have d3 := Lib.hid (d2.out.alloc d2.out.size (.cells #[.int .i64 (128512 + y0), .int .i64 8205] 3))
      have s3 := Lib.hid (ri_src (ri_of_own (ownI_lit w.heap.size w2 [128512 + y0, 8205] #[.int .i64 (128512 + y0), .int .i64 8205] w2.heap.size 2 rfl d2.out.size rfl rfl (by unfold maxLen; omega))))
      have a3 := Lib.hid (apart_symm a2.out)
      clear o1 p1 d1 s1 p2 o2 d2 a2
      go_wp2_with (at_builtin; refine wpList_append_src3 rfl _ _ 24 rfl w.heap.size 3 i0 (.int .i64 0) 8 Try.underlying24 hi hz0 hz1 hz2 rfl _ _ _ rfl p3.out _ _ rfl s3.out (oneCellI _) (by unfold maxLen; first | (simp; done) | (simp; omega)) (by first | (simp; done) | (simp; omega)) d3.out.size ?_; intro v4 w4 ho4 hg4 hl4; have p4 := Lib.hid (ownI_of_row (l := B ++ [128512 + y0, 8205]) ho4 (by simp) (by simp)); have d4 := Lib.hid (below_row d3.out hg4 d3.out.size p3.out (Nat.le_refl _)); have o4 := Lib.hid (World.ownsRow.kept o3.out hg4 a3.out); have a4 := Lib.hid (lies_apart o3.out a3.out hl4); clear ho4 hg4 hl4)
      go_roundg (k - (j + 1))
      case measure => omega
      case rel => exact ⟨j + 1, by omega, by go_num, rfl, by rw [e1.out]; exact o4.out, by rw [e2.out]; exact p4.out, a4.out, d4.out⟩
    · obtain rfl : j = k := by omega
      have hlt' : decide ((j : Int) < (j : Int)) = false := by simp
      have rl := Lib.hid (ri_of_own hl)
      have rp := Lib.hid (ri_of_own hp)
      replace hbel := Lib.hid hbel
      clear hl hp hap
      go_wp2_with fail
      refine (hc1.out _ _ rl.out).mono ?_
      rintro e w2 ⟨vc, rfl, tc, q2⟩
      obtain ⟨pc, cc, rfl⟩ := rt_form tc
      rw [hcl.out] at tc ⊢
      replace tc := Lib.hid tc
      replace rp := Lib.hid (ri_below rp.out q2)
      have b2 := Lib.hid (below_on hbel.out q2)
      clear q2 rl
      go_wp2_with fail
      refine (hc2.out _ _ rp.out).mono ?_
      rintro e w3 ⟨vd, rfl, td, q3⟩
      obtain ⟨pd, cd, rfl⟩ := rt_form td
      rw [List.length_replicate] at td ⊢
      replace td := Lib.hid td
      replace tc := Lib.hid (rt_below tc.out q3)
      have b3 := Lib.hid (below_on b2.out q3)
      clear q3 rp
      go_wp2_with fail
      go_loopg [12] j (fun g vi wy => ∃ i : Nat, i ≤ j ∧ vi = .int .i64 i ∧ g = j - i ∧ wy = w3)
      case atStart => exact ⟨0, Nat.zero_le _, rfl, rfl, rfl⟩
      case round =>
        obtain ⟨i, hij, rfl, rfl, rfl⟩ := hrel
        by_cases hlt2 : i < j
        · have hlt3 : (i : Int) < (j : Int) := by omega
          have hcl' := hcl.out
          obtain ⟨bo, oo, rfl, _, h1⟩ := rt_at tc.out (by omega)
          have c1 : wr.cell? ⟨bo, oo + i, none⟩ = some (.bool (decide (0 < i ∧ i % 2 = 0))) := by
            have h := h1 i (by omega)
            rwa [hget.out i (by omega)] at h
          clear h1 hcl'
          rcases Nat.eq_zero_or_pos i with h0 | h0
          · subst h0
            rw [show decide (0 < 0 ∧ 0 % 2 = 0) = false by decide, Nat.add_zero] at c1
            go_wp2_with fail
            go_roundg (j - 1)
            case measure => omega
            case rel => exact ⟨1, by omega, by go_num, rfl, rfl⟩
          · have h1 : (0 : Int) < (i : Int) := by omega
            rcases Nat.mod_two_eq_zero_or_one i with h2 | h2
            · rw [show decide (0 < i ∧ i % 2 = 0) = true from decide_eq_true ⟨h0, h2⟩] at c1
              have h3 : (i : Int).tmod 2 = 0 := by rw [Int.tmod_eq_emod_of_nonneg (by omega)]; omega
              clear h2
              go_wp2_with fail
              go_roundg (j - (i + 1))
              case measure => omega
              case rel => exact ⟨i + 1, by omega, by go_num, rfl, rfl⟩
            · rw [show decide (0 < i ∧ i % 2 = 0) = false from decide_eq_false (by omega)] at c1
              have h3 : (i : Int).tmod 2 = 1 := by rw [Int.tmod_eq_emod_of_nonneg (by omega)]; omega
              clear h2
              go_wp2_with fail
              go_roundg (j - (i + 1))
              case measure => omega
              case rel => exact ⟨i + 1, by omega, by go_num, rfl, rfl⟩
        · obtain rfl : i = j := by omega
          have hlt3 : decide ((i : Int) < (i : Int)) = false := by simp
          clear tc hget
          go_wp2_with fail
          go_loopg [13] (2 * i) (fun g vi wy => ∃ m : Nat, m ≤ 2 * i ∧ vi = .int .i64 m ∧ g = 2 * i - m ∧ wy = wr)
          case atStart => exact ⟨0, Nat.zero_le _, rfl, rfl, rfl⟩
          case round =>
            obtain ⟨m, hm, rfl, rfl, rfl⟩ := hrel
            by_cases hlt4 : m < 2 * i
            · have hlt5 : (m : Int) < 2 * (i : Int) := by omega
              obtain ⟨bo, oo, rfl, _, h1⟩ := rt_at td.out (by simp; omega)
              have c1 : wr.cell? ⟨bo, oo + m, none⟩ = some (.bool false) := by
                have h := h1 m (by simpa using hlt4)
                rwa [List.getElem_replicate] at h
              clear h1
              go_wp2_with fail
              go_roundg (2 * i - (m + 1))
              case measure => omega
              case rel => exact ⟨m + 1, by omega, by go_num, rfl, rfl⟩
            · have hlt5 : ¬ (m : Int) < 2 * (i : Int) := by omega
              go_wp2_with fail
              go_ret
              exact ⟨rfl, b3.out⟩

end Go.Proofs.Ytodckdlanlgkeaa
