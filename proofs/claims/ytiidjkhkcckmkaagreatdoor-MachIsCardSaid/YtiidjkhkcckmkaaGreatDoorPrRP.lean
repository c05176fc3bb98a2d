/- Texts that stand together. -/
import Derived.Test.YtiidjkhkcckmkaaGreatDoorPrP
import Derived.Deep.LoopGhost
import Derived.Deep.DeepCutAuto
/- Layer 3: the document's answer, row by row. -/
namespace Go.Proofs.YtiidjkhkcckmkaaGreatDoor
set_option linter.unusedSimpArgs false
set_option linter.unusedVariables false
open Go.RowKit Go.Lib
set_option maxHeartbeats 800000 in
theorem rspan_any (T : List Prp.Row) (hn : T.length ≤ 1000) (b : Nat) (r : Int) (w : World) (h : RowsAt w b T) (n : Nat) (hnT : n = T.length) :
    Calls Tryz.prog 145 #[.slice (some ⟨b, 0, none⟩) n n, .int .i64 r] w fun e w' => e = .returned (.tuple #[.int .i64 ((Prp.look T r).getD 0), .bool (Prp.look T r).isSome]) ∧ w = w' := by
  have hn1 : n ≤ 1000 := by omega
  replace hnT := Lib.hid hnT
  replace h := Lib.hid h
  clear hn
  obtain ⟨R, hR⟩ : ∃ R, Prp.look T r = R := ⟨_, rfl⟩
  rw [hR]
  replace hR := Lib.hid hR
  go_enter Tryz.func145, Tryz.ntmps145
  go_wp2_with fail
  go_loopg [6] n (fun g i wr => w = wr ∧ ∃ k : Nat, k ≤ n ∧ g = n - k ∧ i = .int .i64 k ∧ Hid (Prp.look T r = Prp.look (T.drop k) r))
  case atStart => exact ⟨rfl, 0, Nat.zero_le _, rfl, rfl, Lib.hid rfl⟩
  case round =>
    obtain ⟨rfl, k, hk, rfl, rfl, hl⟩ := hrel
    by_cases hlt : k < n
    · have hlt' : (k : Int) < (n : Int) := by omega
      have hkT : k < T.length := by rw [← hnT.out]; exact hlt
      obtain ⟨A, B, C, hT, h0, h1, h2⟩ := rows_cells h.out k hkT
      have hd : T.drop k = (A, B, C) :: T.drop (k + 1) := by rw [List.drop_eq_getElem_cons hkT, hT]
      have hstep : Prp.look T r = if A ≤ r ∧ r ≤ B then some C else Prp.look (T.drop (k + 1)) r := by rw [hl.out, hd]; rfl
      clear hl hd
      replace hT := Lib.hid hT
      by_cases hA : A ≤ r
      · by_cases hB : r ≤ B
        · rw [if_pos ⟨hA, hB⟩] at hstep
          rw [hR.out] at hstep
          replace hstep := Lib.hid hstep
          go_wp2_with fail
          go_ret2
          exact ⟨by rw [hstep.out]; rfl, rfl⟩
        · rw [if_neg (fun h => hB h.2)] at hstep
          have hB' : decide (r ≤ B) = false := by simp; omega
          replace hstep := Lib.hid hstep
          go_wp2_with fail
          go_roundg (n - (k + 1))
          case measure => omega
          case rel => exact ⟨rfl, k + 1, by omega, rfl, by go_num, hstep⟩
      · rw [if_neg (fun h => hA h.1)] at hstep
        have hA' : decide (A ≤ r) = false := by simp; omega
        replace hstep := Lib.hid hstep
        go_wp2_with fail
        go_roundg (n - (k + 1))
        case measure => omega
        case rel => exact ⟨rfl, k + 1, by omega, rfl, by go_num, hstep⟩
    · have hlt' : decide ((k : Int) < (n : Int)) = false := by simp; omega
      have hl2 := hl.out
      rw [hR.out, List.drop_eq_nil_of_le (by rw [← hnT.out]; omega)] at hl2
      replace hl2 := Lib.hid hl2
      clear hl
      go_wp2_with fail
      go_ret2
      exact ⟨by rw [hl2.out]; rfl, rfl⟩
end Go.Proofs.YtiidjkhkcckmkaaGreatDoor

/- Layer 3: the document's table of classes. -/
namespace Go.Proofs.YtiidjkhkcckmkaaGreatDoor
set_option linter.unusedSimpArgs false
set_option linter.unusedVariables false
open Go.RowKit Go.Lib
set_option maxRecDepth 100000 in
set_option maxHeartbeats 1600000 in
theorem rclasses_any (w : World) :
    Calls Tryz.prog 152 #[] w fun e w' => e = .returned (.slice (some ⟨w.heap.size, 0, none⟩) 42 42) ∧ w' = w.alloc (.cells (flat Prp.classes).toArray 196) := by
  go_enter Tryz.func152, Tryz.ntmps152
  go_upto_region 1 with (fail)
  refine wp_region_lit ?_
  refine wpList_runOps 43 (a' := { tmps := #[.slice none 0 0, .agg #[.int .i64 768, .int .i64 788, .int .i64 230], .agg #[.int .i64 789, .int .i64 789, .int .i64 232], .agg #[.int .i64 790, .int .i64 793, .int .i64 220], .agg #[.int .i64 794, .int .i64 794, .int .i64 232], .agg #[.int .i64 795, .int .i64 795, .int .i64 216], .agg #[.int .i64 796, .int .i64 800, .int .i64 220], .agg #[.int .i64 801, .int .i64 802, .int .i64 202], .agg #[.int .i64 803, .int .i64 806, .int .i64 220], .agg #[.int .i64 807, .int .i64 808, .int .i64 202], .agg #[.int .i64 809, .int .i64 819, .int .i64 220], .agg #[.int .i64 820, .int .i64 824, .int .i64 1], .agg #[.int .i64 825, .int .i64 828, .int .i64 220], .agg #[.int .i64 829, .int .i64 836, .int .i64 230], .agg #[.int .i64 837, .int .i64 837, .int .i64 240], .agg #[.int .i64 838, .int .i64 838, .int .i64 230], .agg #[.int .i64 839, .int .i64 841, .int .i64 220], .agg #[.int .i64 842, .int .i64 844, .int .i64 230], .agg #[.int .i64 845, .int .i64 846, .int .i64 220], .agg #[.int .i64 848, .int .i64 850, .int .i64 230], .agg #[.int .i64 851, .int .i64 854, .int .i64 220], .agg #[.int .i64 855, .int .i64 855, .int .i64 230], .agg #[.int .i64 856, .int .i64 856, .int .i64 232], .agg #[.int .i64 857, .int .i64 858, .int .i64 220], .agg #[.int .i64 859, .int .i64 859, .int .i64 230], .agg #[.int .i64 860, .int .i64 860, .int .i64 233], .agg #[.int .i64 861, .int .i64 862, .int .i64 234], .agg #[.int .i64 863, .int .i64 863, .int .i64 233], .agg #[.int .i64 864, .int .i64 865, .int .i64 234], .agg #[.int .i64 866, .int .i64 866, .int .i64 233], .agg #[.int .i64 867, .int .i64 879, .int .i64 230], .agg #[.int .i64 1611, .int .i64 1611, .int .i64 27], .agg #[.int .i64 1612, .int .i64 1612, .int .i64 28], .agg #[.int .i64 1613, .int .i64 1613, .int .i64 29], .agg #[.int .i64 1614, .int .i64 1614, .int .i64 30], .agg #[.int .i64 1615, .int .i64 1615, .int .i64 31], .agg #[.int .i64 1616, .int .i64 1616, .int .i64 32], .agg #[.int .i64 1617, .int .i64 1617, .int .i64 33], .agg #[.int .i64 1618, .int .i64 1618, .int .i64 34], .agg #[.int .i64 2364, .int .i64 2364, .int .i64 7], .agg #[.int .i64 2381, .int .i64 2381, .int .i64 9], .agg #[.int .i64 8400, .int .i64 8401, .int .i64 230], .agg #[.int .i64 12441, .int .i64 12442, .int .i64 8], .slice (some ⟨w.heap.size, 0, none⟩) 42 42], defers := [] }) (w' := w.alloc (.cells (flat Prp.classes).toArray 196)) (by kernel_rfl) ?_
  simp only [List.drop_succ_cons, List.drop_zero]
  go_wp2_with fail
  go_ret
  exact ⟨rfl, rfl⟩
end Go.Proofs.YtiidjkhkcckmkaaGreatDoor

/- Layer 3: the document's answers. -/
namespace Go.Proofs.YtiidjkhkcckmkaaGreatDoor
set_option linter.unusedSimpArgs false
set_option linter.unusedVariables false
open Go.RowKit Go.Lib
theorem rccc_any (r : Int) (w : World) :
    Calls Tryz.prog 122 #[.int .i64 r] w fun e w' => e = .returned (.int .i64 (Prp.cccI r)) ∧ Below w.heap.size w w' := by
  unfold Prp.cccI
  go_enter Tryz.func122, Tryz.ntmps122
  go_wp2_with fail
  refine (rclasses_any _).mono ?_
  rintro e w1 ⟨rfl, hw⟩
  replace hw := Lib.hid hw
  go_wp2_with fail
  refine (rspan_any Prp.classes (by decide) w.heap.size r w1 (by rw [hw.out]; exact rows_new w _ _ Prp.classes rfl) 42 rfl).mono ?_
  rintro e w2 ⟨rfl, rfl⟩
  go_wp2_with fail
  go_ret
  exact ⟨rfl, by rw [hw.out]; exact below_new _ _⟩
theorem rmark_any (r : Int) (w : World) :
    Calls Tryz.prog 83 #[.int .i64 r] w fun e w' => e = .returned (.bool (Prp.mrkB r)) ∧ Below w.heap.size w w' := by
  unfold Prp.mrkB
  go_enter Tryz.func83, Tryz.ntmps83
  go_wp2_with fail
  refine (rccc_any r _).mono ?_
  rintro e w1 ⟨rfl, hb1⟩
  replace hb1 := Lib.hid hb1
  go_wp2_with fail
  go_ret
  exact ⟨rfl, hb1.out⟩
end Go.Proofs.YtiidjkhkcckmkaaGreatDoor

