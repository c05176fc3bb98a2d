/- Layer 7: classed of the statements. -/
import Derived.Test.YtkhjkodeolaemaaDoorCnN
import Derived.Test.YtkhjkodeolaemaaDoorPrO
import Derived.Deep.LoopGhost
import Derived.Deep.DeepCutAuto
namespace Go.Proofs.YtkhjkodeolaemaaDoor
set_option linter.unusedSimpArgs false
set_option linter.unusedVariables false
open Go.RowKit Go.Lib

theorem filter_take (l : List Int) (c : Int) (k : Nat) (hk : k < l.length) : (l.take (k + 1)).filter (fun x => decide (Prp.cccI x = c)) = (l.take k).filter (fun x => decide (Prp.cccI x = c)) ++ (if Prp.cccI l[k] = c then [l[k]] else []) := by
  rw [List.take_succ_eq_append_getElem hk, List.filter_append]
  congr 1
  by_cases h : Prp.cccI l[k] = c <;> simp [h]

set_option maxHeartbeats 3200000 in
theorem classed_any (v : Value) (l : List Int) (w : World) (hl : l.length ≤ 1000) (hv : RI w v l) : Calls Tryd.prog 20 #[v] w (Makes (Can.classI l 241) w) := by
  obtain ⟨i0, hi, hz0, hz1, hz2⟩ := info_parts info_i
  obtain ⟨p, cap, rfl⟩ := ri_form hv
  replace hv := Lib.hid hv
  go_enter Tryd.func20, Tryd.ntmps20
  go_wp2_with fail
  go_loopg [3, 4] 241 (fun g vo vc wr => ∃ c : Nat, c ≤ 241 ∧ vc = .int .i64 c ∧ g = 241 - c ∧ OwnI w.heap.size vo (Can.classI l c) wr ∧ Below w.heap.size w wr)
  case atStart => exact ⟨0, Nat.zero_le _, rfl, rfl, ownI_nil _ _, Below.refl _ _⟩
  case round =>
    obtain ⟨c, hc, rfl, rfl, hown, hbel⟩ := hrel
    by_cases hlt : c < 241
    · have hlt' : decide ((c : Int) ≤ 240) = true := decide_eq_true (by omega)
      have hcl := Can.class_len l c
      have hsucc := Can.class_succ l c
      obtain ⟨D, hD⟩ : ∃ D, Can.classI l c = D := ⟨_, rfl⟩
      rw [hD] at hown hcl hsucc
      have hDl : D.length ≤ 240000 := Nat.le_trans hcl (Nat.le_trans (Nat.mul_le_mul (show c ≤ 240 by omega) hl) (by decide))
      have hsD := Lib.hid hsucc
      replace hown := Lib.hid hown
      replace hbel := Lib.hid hbel
      clear hcl hD hsucc
      go_wp2_with fail
      go_loopg [3, 5] l.length (fun g vo vi wq => ∃ k : Nat, k ≤ l.length ∧ vi = .int .i64 k ∧ g = l.length - k ∧ OwnI w.heap.size vo (D ++ (l.take k).filter (fun x => decide (Prp.cccI x = (c : Int)))) wq ∧ Below w.heap.size w wq)
      case atStart => exact ⟨0, Nat.zero_le _, rfl, rfl, ownI_cast hown.out (by simp), hbel.out⟩
      case round =>
        obtain ⟨k, hk, rfl, rfl, hown2, hbel2⟩ := hrel
        by_cases hlk : k < l.length
        · obtain ⟨b, off, rfl, hb, hcell⟩ := ri_at hv.out (by omega)
          have hcc := (hbel2.cell hb).trans (hcell k hlk)
          have hft := filter_take l c k hlk
          obtain ⟨x, hx⟩ : ∃ x, l[k] = x := ⟨_, rfl⟩
          rw [hx] at hcc hft
          obtain ⟨F, hF⟩ : ∃ F, (l.take k).filter (fun x => decide (Prp.cccI x = (c : Int))) = F := ⟨_, rfl⟩
          have hFl : F.length ≤ 1000 := by
            rw [← hF]
            refine Nat.le_trans (List.length_filter_le _ _) ?_
            rw [List.length_take]
            omega
          rw [hF] at hft hown2
          have hDF : (D ++ F).length ≤ 241000 := by rw [List.length_append]; omega
          obtain ⟨DF, hDFe⟩ : ∃ DF, D ++ F = DF := ⟨_, rfl⟩
          rw [hDFe] at hown2 hDF
          obtain ⟨cx, hcx⟩ : ∃ cx, Prp.cccI x = cx := ⟨_, rfl⟩
          have hcall := Lib.hid (ccc_of x cx hcx)
          rw [hcx] at hft
          replace hcell := Lib.hid hcell
          replace hown2 := Lib.hid hown2
          replace hbel2 := Lib.hid hbel2
          clear hx hF hcx hown hbel
          by_cases he : cx = (c : Int)
          · rw [if_pos he] at hft
            have he' : (cx == (c : Int)) = true := by simpa using he
            have hnew := Lib.hid (show D ++ (l.take (k + 1)).filter (fun x => decide (Prp.cccI x = (c : Int))) = DF ++ [x] by rw [hft, ← hDFe, List.append_assoc])
            clear hft he hDFe
            go_wp2_with fail
            refine (hcall.out _).mono ?_
            rintro e w2 ⟨rfl, hb2⟩
            have b2 := Lib.hid (below_on hbel2.out hb2)
            have o2 := Lib.hid (ownI_alloc (ownI_below hown2.out hb2) (.cells #[.int .i64 x] 3))
            have hc2 : w2.cell? ⟨b, off + k, none⟩ = some (.int .i64 x) := (hb2.cell (World.block_lt_of_cell? _ _ hcc)).trans hcc
            have b2a := Lib.hid (b2.out.alloc b2.out.size (.cells #[.int .i64 x] 3))
            have s2 := Lib.hid (ri_src (ri_of_own (ownI_lit w.heap.size w2 [x] #[.int .i64 x] w2.heap.size 1 rfl b2.out.size rfl rfl (by unfold maxLen; omega))))
            clear hb2 hcc
            go_wp2_with (at_builtin; refine wpList_append_src rfl _ _ 22 rfl w.heap.size 3 i0 (.int .i64 0) 8 Tryd.underlying22 hi hz0 hz1 hz2 rfl _ _ _ rfl o2.out _ _ rfl s2.out (oneCellI _) (by unfold maxLen; first | (simp; done) | (simp; omega)) (by first | (simp; done) | (simp; omega)) b2a.out.size ?_; intro v5 w5 ho5 hg5; have o5 := Lib.hid (ownI_of_row (l := DF ++ [x]) ho5 (by (try simp); try omega) (by (try simp); try omega)); have b5 := Lib.hid (below_row b2a.out hg5 b2a.out.size o2.out (Nat.le_refl _)); clear ho5 hg5)
            go_roundg (l.length - (k + 1))
            case measure => omega
            case rel => exact ⟨k + 1, by omega, by go_num, rfl, by rw [hnew.out]; exact o5.out, b5.out⟩
          · rw [if_neg he, List.append_nil] at hft
            have he' : (cx == (c : Int)) = false := by simpa using he
            have hnew := Lib.hid (show D ++ (l.take (k + 1)).filter (fun x => decide (Prp.cccI x = (c : Int))) = DF by rw [hft, ← hDFe])
            clear hft he hDFe
            go_wp2_with fail
            refine (hcall.out _).mono ?_
            rintro e w2 ⟨rfl, hb2⟩
            have b2 := Lib.hid (below_on hbel2.out hb2)
            have o2 := Lib.hid (ownI_below hown2.out hb2)
            clear hb2 hcc
            go_wp2_with fail
            go_roundg (l.length - (k + 1))
            case measure => omega
            case rel => exact ⟨k + 1, by omega, by go_num, rfl, by rw [hnew.out]; exact o2.out, b2.out⟩
        · obtain rfl : k = l.length := by omega
          have hlk' : decide (l.length < l.length) = false := by simp
          rw [List.take_length, ← hsD.out] at hown2
          replace hown2 := Lib.hid hown2
          replace hbel2 := Lib.hid hbel2
          clear hown hbel
          go_wp2_with fail
          go_roundg (241 - (c + 1))
          case measure => omega
          case rel => exact ⟨c + 1, by omega, by go_num, rfl, hown2.out, hbel2.out⟩
    · obtain rfl : c = 241 := by omega
      replace hown := Lib.hid hown
      replace hbel := Lib.hid hbel
      go_wp2_with fail
      go_ret
      exact ⟨_, rfl, hown.out, hbel.out⟩

end Go.Proofs.YtkhjkodeolaemaaDoor
