/- Layer 12: the walk of SegLong. -/
import Derived.Test.YtbkgjbpnogcjeaaSgW0
import Derived.Test.YtbkgjbpnogcjeaaSeL
import Derived.Test.YtbkgjbpnogcjeaaBasP
import Derived.Deep.LoopGhost
import Derived.Deep.DeepCutAuto
namespace Go.Proofs.Ytbkgjbpnogcjeaa
set_option linter.unusedSimpArgs false
set_option linter.unusedVariables false
open Go.RowKit Go.Lib

theorem mod_of12 (a m : Int) (hm : 0 < m) : ∃ x, (bits .and .i64 a 65535).tmod m = x ∧ 0 ≤ x ∧ x < m := by
  have h0 : 0 ≤ a % 65536 % m := Int.emod_nonneg _ (by omega)
  have h1 : a % 65536 % m < m := Int.emod_lt_of_pos _ hm
  refine ⟨_, rfl, ?_⟩
  rw [and65535, Int.tmod_eq_emod_of_nonneg (by omega)]
  exact ⟨h0, h1⟩
theorem mask_of (a : Int) : ∃ k : Nat, bits .and .i64 a 127 = (k : Int) ∧ k < 128 := by
  refine ⟨(a % 128).toNat, ?_, by omega⟩
  rw [and127]
  omega
theorem kindA12 (x : Int) (h0 : 0 ≤ x) (h1 : x < 26) : Prp.gcbI (97 + x) = 0 := by
  have h : ∀ k : Fin 26, Prp.gcbI (97 + (k.1 : Int)) = 0 := by decide +kernel
  have := h ⟨x.toNat, by omega⟩
  rwa [show ((x.toNat : Nat) : Int) = x by omega] at this

/-- the clusters by their numbers -/
theorem long_at (k j i F G : Nat) (hF : F = (k + 32) / 32) (hG : G = (j + 32) / 32) (h : i < F + G) : (Sgm.sizes k 1 ++ Sgm.sizes j 1)[i]? = some (if i + 1 = F then k + 1 - 32 * (F - 1) else if i + 1 = F + G then j + 1 - 32 * (G - 1) else 32) := by
  have l1 := Sgm.sizes_len k 1 (by omega) (by omega)
  have l2 := Sgm.sizes_len j 1 (by omega) (by omega)
  by_cases h1 : i < F
  · have hi : i < (Sgm.sizes k 1).length := by omega
    rw [List.getElem?_append_left hi, List.getElem?_eq_getElem hi, Sgm.sizes_at k 1 i (by omega) (by omega) hi]
    congr 1
    split
    · rw [if_pos (by omega)]; omega
    · rw [if_neg (by omega), if_neg (by omega)]
  · have hi : i - (Sgm.sizes k 1).length < (Sgm.sizes j 1).length := by omega
    rw [List.getElem?_append_right (by omega), List.getElem?_eq_getElem hi, Sgm.sizes_at j 1 _ (by omega) (by omega) hi]
    congr 1
    split
    · rw [if_neg (by omega), if_pos (by omega)]; omega
    · rw [if_neg (by omega), if_neg (by omega)]

set_option maxHeartbeats 12800000 in
set_option maxRecDepth 100000 in
theorem segLong_walk (hS : SaneC12) (hA : AllC12) (n m c : Int) (w : World) (_ : -9223372036854775808 ≤ n ∧ n ≤ 9223372036854775807) (_ : -9223372036854775808 ≤ m ∧ m ≤ 9223372036854775807) (_ : -9223372036854775808 ≤ c ∧ c ≤ 9223372036854775807) :
    Calls Try.prog 8 #[.int .i64 n, .int .i64 m, .int .i64 c] w fun e w' => e = .returned (.bool true) ∧ Below w.heap.size w w' := by
  have hawake := Lib.hid (awake12 hS hA)
  obtain ⟨i0, hi, hz0, hz1, hz2⟩ := info_parts info_i
  obtain ⟨k, hk, hk1⟩ := mask_of n
  obtain ⟨j, hj, hj1⟩ := mask_of m
  obtain ⟨y, hy, hy0, hy1⟩ := mod_of12 c 26 (by omega)
  have hmap := Sgm.all_marks (kindA12 y hy0 hy1) (show Prp.gcbI 769 = 4 by decide +kernel) (show Prp.gcbI 803 = 4 by decide +kernel) k j
  have hall := fun V W h => all_of12 hA (v := V) (l := (97 + y) :: (List.replicate k 769 ++ (97 + y) :: List.replicate j 803)) (w := W) rfl (by simp; omega) h
  obtain ⟨OUT, hOUT⟩ : ∃ O, Sgm.allI ((97 + y) :: (List.replicate k 769 ++ (97 + y) :: List.replicate j 803)) = O := ⟨_, rfl⟩
  rw [hOUT] at hmap hall
  obtain ⟨F, hF⟩ : ∃ F, F = (k + 32) / 32 := ⟨_, rfl⟩
  obtain ⟨G, hG⟩ : ∃ F, F = (j + 32) / 32 := ⟨_, rfl⟩
  have hFi : ((k : Int) + 32).tdiv 32 = (F : Int) := by rw [Int.tdiv_eq_ediv_of_nonneg (by omega)]; omega
  have hGi : ((j : Int) + 32).tdiv 32 = (G : Int) := by rw [Int.tdiv_eq_ediv_of_nonneg (by omega)]; omega
  have hOl : OUT.length = F + G := by
    have := congrArg List.length hmap
    rw [List.length_map, List.length_append, Sgm.sizes_len k 1 (by omega) (by omega), Sgm.sizes_len j 1 (by omega) (by omega)] at this
    omega
  have hat : ∀ i (h : i < OUT.length), OUT[i].length = if i + 1 = F then k + 1 - 32 * (F - 1) else if i + 1 = F + G then j + 1 - 32 * (G - 1) else 32 := fun i h => by
    have h1 := long_at k j i F G hF hG (by omega)
    rw [← hmap, List.getElem?_map, List.getElem?_eq_getElem h] at h1
    exact Option.some.inj h1
  have hF1 : 1 ≤ F := by omega
  have hG1 : 1 ≤ G := by omega
  have hF5 : F ≤ 5 := by omega
  have hG5 : G ≤ 5 := by omega
  have hFk : 32 * (F - 1) ≤ k ∧ k < 32 * F := by omega
  have hGk : 32 * (G - 1) ≤ j ∧ j < 32 * G := by omega
  replace hall := Lib.hid hall
  replace hat := Lib.hid hat
  replace hOl := Lib.hid hOl
  replace hFk := Lib.hid hFk
  replace hGk := Lib.hid hGk
  clear hmap hOUT hF hG hS hA
  go_enter Try.func8, Try.ntmps8
  go_wp2_with fail
  refine (hawake.out w).mono ?_
  rintro e w1 ⟨rfl, b1⟩
  have o1 := ownI_lit w.heap.size w1 [97 + y] #[.int .i64 (97 + y)] w1.heap.size 1 rfl b1.size rfl rfl (by unfold maxLen; omega)
  have b2 := b1.alloc b1.size (.cells #[.int .i64 (97 + y)] 3)
  replace o1 := Lib.hid o1
  replace b2 := Lib.hid b2
  clear b1
  go_wp2_with fail
  go_loopg [11, 12] k (fun g vl vi wr => ∃ i : Nat, i ≤ k ∧ vi = .int .i64 i ∧ g = k - i ∧ OwnI w.heap.size vl ((97 + y) :: List.replicate i 769) wr ∧ Below w.heap.size w wr)
  case atStart => exact ⟨0, Nat.zero_le _, rfl, rfl, o1.out, b2.out⟩
  case round =>
    obtain ⟨i, hik, rfl, rfl, hown, hbel⟩ := hrel
    clear o1 b2
    by_cases hlt : i < k
    · have hlt' : (i : Int) < (k : Int) := by omega
      have e1 := Lib.hid (show (97 + y) :: List.replicate (i + 1) 769 = ((97 + y) :: List.replicate i 769) ++ [769] by rw [List.replicate_succ']; rfl)
      have hl1 : ((97 + y) :: List.replicate i (769 : Int)).length = i + 1 := by simp
      obtain ⟨A, hA⟩ : ∃ A, (97 + y) :: List.replicate i (769 : Int) = A := ⟨_, rfl⟩
      rw [hA] at hown e1 hl1
      have hAl : A.length ≤ 200 := by omega
      replace hown := Lib.hid hown
      replace hbel := Lib.hid hbel
      clear hl1 hA
      have oo := Lib.hid (ownI_alloc hown.out (.cells #[.int .i64 769] 3))
      have bb := Lib.hid (hbel.out.alloc hbel.out.size (.cells #[.int .i64 769] 3))
      have ss := Lib.hid (ri_src (ri_of_own (ownI_lit w.heap.size wr [769] #[.int .i64 769] wr.heap.size 1 rfl hbel.out.size rfl rfl (by unfold maxLen; omega))))
      clear hown hbel
      go_wp2_with (at_builtin; refine wpList_append_src rfl _ _ 22 rfl w.heap.size 3 i0 (.int .i64 0) 8 Try.underlying22 hi hz0 hz1 hz2 rfl _ _ _ rfl oo.out _ _ rfl ss.out (oneCellI _) (by unfold maxLen; first | (simp; done) | (simp; omega)) (by first | (simp; done) | (simp; omega)) bb.out.size ?_; intro v5 w5 ho5 hg5; have o5 := Lib.hid (ownI_of_row (l := A ++ [769]) ho5 (by (try simp); try omega) (by (try simp); try omega)); have b5 := Lib.hid (below_row bb.out hg5 bb.out.size oo.out (Nat.le_refl _)); clear ho5 hg5)
      clear oo bb ss
      go_roundg (k - (i + 1))
      case measure => omega
      case rel => exact ⟨i + 1, by omega, by go_num, rfl, by rw [e1.out]; exact o5.out, b5.out⟩
    · obtain rfl : i = k := by omega
      have hlt' : decide ((i : Int) < (i : Int)) = false := by simp
      have hl1 : ((97 + y) :: List.replicate i (769 : Int)).length = i + 1 := by simp
      obtain ⟨A, hA⟩ : ∃ A, (97 + y) :: List.replicate i (769 : Int) = A := ⟨_, rfl⟩
      rw [hA] at hown hl1
      have hAl : A.length ≤ 200 := by omega
      replace hown := Lib.hid hown
      replace hbel := Lib.hid hbel
      replace hA := Lib.hid hA
      clear hl1
      have oo := Lib.hid (ownI_alloc hown.out (.cells #[.int .i64 (97 + y)] 3))
      have bb := Lib.hid (hbel.out.alloc hbel.out.size (.cells #[.int .i64 (97 + y)] 3))
      have ss := Lib.hid (ri_src (ri_of_own (ownI_lit w.heap.size wr [(97 + y)] #[.int .i64 (97 + y)] wr.heap.size 1 rfl hbel.out.size rfl rfl (by unfold maxLen; omega))))
      clear hown hbel
      go_wp2_with (at_builtin; refine wpList_append_src rfl _ _ 22 rfl w.heap.size 3 i0 (.int .i64 0) 8 Try.underlying22 hi hz0 hz1 hz2 rfl _ _ _ rfl oo.out _ _ rfl ss.out (oneCellI _) (by unfold maxLen; first | (simp; done) | (simp; omega)) (by first | (simp; done) | (simp; omega)) bb.out.size ?_; intro v6 w6 ho6 hg6; have o6 := Lib.hid (ownI_of_row (l := A ++ [(97 + y)]) ho6 (by (try simp); try omega) (by (try simp); try omega)); have b6 := Lib.hid (below_row bb.out hg6 bb.out.size oo.out (Nat.le_refl _)); clear ho6 hg6)
      clear oo bb ss
      go_loopg [11, 13] j (fun g vl vi wz => ∃ q : Nat, q ≤ j ∧ vi = .int .i64 q ∧ g = j - q ∧ OwnI w.heap.size vl (A ++ [97 + y] ++ List.replicate q 803) wz ∧ Below w.heap.size w wz)
      case atStart => exact ⟨0, Nat.zero_le _, rfl, rfl, by simpa using o6.out, b6.out⟩
      case round =>
        obtain ⟨q, hqj, rfl, rfl, hown, hbel⟩ := hrel
        clear o6 b6
        by_cases hlq : q < j
        · have hlq' : (q : Int) < (j : Int) := by omega
          have e1 := Lib.hid (show A ++ [97 + y] ++ List.replicate (q + 1) 803 = (A ++ [97 + y] ++ List.replicate q 803) ++ [803] by rw [List.replicate_succ', ← List.append_assoc])
          have hl1 : (A ++ [97 + y] ++ List.replicate q (803 : Int)).length = A.length + 1 + q := by simp; omega
          obtain ⟨B, hB⟩ : ∃ B, A ++ [97 + y] ++ List.replicate q (803 : Int) = B := ⟨_, rfl⟩
          rw [hB] at hown e1 hl1
          have hBl : B.length ≤ 400 := by omega
          replace hown := Lib.hid hown
          replace hbel := Lib.hid hbel
          clear hl1 hB
          have oo := Lib.hid (ownI_alloc hown.out (.cells #[.int .i64 803] 3))
          have bb := Lib.hid (hbel.out.alloc hbel.out.size (.cells #[.int .i64 803] 3))
          have ss := Lib.hid (ri_src (ri_of_own (ownI_lit w.heap.size wr [803] #[.int .i64 803] wr.heap.size 1 rfl hbel.out.size rfl rfl (by unfold maxLen; omega))))
          clear hown hbel
          go_wp2_with (at_builtin; refine wpList_append_src rfl _ _ 22 rfl w.heap.size 3 i0 (.int .i64 0) 8 Try.underlying22 hi hz0 hz1 hz2 rfl _ _ _ rfl oo.out _ _ rfl ss.out (oneCellI _) (by unfold maxLen; first | (simp; done) | (simp; omega)) (by first | (simp; done) | (simp; omega)) bb.out.size ?_; intro v7 w7 ho7 hg7; have o7 := Lib.hid (ownI_of_row (l := B ++ [803]) ho7 (by (try simp); try omega) (by (try simp); try omega)); have b7 := Lib.hid (below_row bb.out hg7 bb.out.size oo.out (Nat.le_refl _)); clear ho7 hg7)
          clear oo bb ss
          go_roundg (j - (q + 1))
          case measure => omega
          case rel => exact ⟨q + 1, by omega, by go_num, rfl, by rw [e1.out]; exact o7.out, b7.out⟩
        · obtain rfl : q = j := by omega
          have hlq' : decide ((q : Int) < (q : Int)) = false := by simp
          have eT : A ++ [97 + y] ++ List.replicate q 803 = (97 + y) :: (List.replicate i 769 ++ (97 + y) :: List.replicate q 803) := by rw [← hA.out]; simp
          rw [eT] at hown
          have rl := Lib.hid (ri_of_own hown)
          replace hbel := Lib.hid hbel
          clear hown eT
          go_wp2_with fail
          refine (hall.out _ _ rl.out).mono ?_
          rintro e w5 ⟨vo, rfl, tr, q5⟩
          obtain ⟨po, co, rfl⟩ := rr_form tr
          rw [hOl.out] at tr ⊢
          have b5 := Lib.hid (below_on hbel.out q5)
          replace tr := Lib.hid tr
          clear q5 rl
          go_wp2_with fail
          go_loopg [16, 17] (F + G) (fun g vi vs wz => ∃ t : Nat, t ≤ F + G ∧ vi = .int .i64 t ∧ g = F + G - t ∧ wz = w5)
          case atStart => exact ⟨0, Nat.zero_le _, rfl, rfl, rfl⟩
          case round =>
            obtain ⟨t, htF, rfl, rfl, rfl⟩ := hrel
            by_cases htl : t < F + G
            · have htl' : (t : Int) < (F : Int) + (G : Int) := by omega
              have hl0 := hOl.out
              obtain ⟨bo, oo, rfl, _, hco⟩ := rr_at tr.out (by omega)
              obtain ⟨u, d0, r0⟩ := hco t (by omega)
              obtain ⟨pu, cu, rfl⟩ := ri_form r0
              have hsz := hat.out t (by omega)
              obtain ⟨nt, hnt⟩ : ∃ x, (OUT[t]'(by omega)).length = x := ⟨_, rfl⟩
              rw [hnt] at d0 hsz
              have hfk := hFk.out
              have hgk := hGk.out
              clear hco r0 hnt hl0
              by_cases hA1 : t + 1 = F
              · rw [if_pos hA1] at hsz
                have f1 : ((t : Int) == (F : Int) - 1) = true := by rw [beq_iff_eq]; omega
                have f2 : ((t : Int) == (F : Int) + (G : Int) - 1) = false := beq_eq_false_iff_ne.2 (by omega)
                have f3 : (t : Int) = (F : Int) - 1 := by omega
                have hv : (nt : Int) = (i : Int) + 1 - 32 * ((F : Int) - 1) := by omega
                replace f3 := Lib.hid f3
                replace hv := Lib.hid hv
                have hne : ((nt : Int) != (i : Int) + 1 - 32 * ((F : Int) - 1)) = false := by rw [hv.out]; simp
                clear hA1 hsz hfk hgk
                go_wp2_with fail
                go_roundg (F + G - (t + 1))
                case measure => omega
                case rel => exact ⟨t + 1, by omega, by go_num, rfl, rfl⟩
              · rw [if_neg hA1] at hsz
                have f1 : ((t : Int) == (F : Int) - 1) = false := beq_eq_false_iff_ne.2 (by omega)
                by_cases hB1 : t + 1 = F + G
                · rw [if_pos hB1] at hsz
                  have f2 : ((t : Int) == (F : Int) + (G : Int) - 1) = true := by rw [beq_iff_eq]; omega
                  have hv : (nt : Int) = (q : Int) + 1 - 32 * ((G : Int) - 1) := by omega
                  replace hv := Lib.hid hv
                  have hne : ((nt : Int) != (q : Int) + 1 - 32 * ((G : Int) - 1)) = false := by rw [hv.out]; simp
                  have hcan : (F : Int) + (G : Int) - (F : Int) = (G : Int) := by omega
                  clear hA1 hB1 hsz hfk hgk
                  go_wp2_with fail
                  go_roundg (F + G - (t + 1))
                  case measure => omega
                  case rel => exact ⟨t + 1, by omega, by go_num, rfl, rfl⟩
                · rw [if_neg hB1] at hsz
                  have f2 : ((t : Int) == (F : Int) + (G : Int) - 1) = false := beq_eq_false_iff_ne.2 (by omega)
                  subst hsz
                  clear hA1 hB1 hfk hgk
                  go_wp2_with fail
                  go_roundg (F + G - (t + 1))
                  case measure => omega
                  case rel => exact ⟨t + 1, by omega, by go_num, rfl, rfl⟩
            · have htl' : ¬ (t : Int) < (F : Int) + (G : Int) := by omega
              go_wp2_with fail
              go_ret
              exact ⟨rfl, b5.out⟩

end Go.Proofs.Ytbkgjbpnogcjeaa
