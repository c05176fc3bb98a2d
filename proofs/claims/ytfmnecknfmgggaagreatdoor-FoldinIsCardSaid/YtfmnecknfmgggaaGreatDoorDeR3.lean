/- Layer 4: the document's Full and Is. -/
import Derived.Test.YtfmnecknfmgggaaGreatDoorDeR1
import Derived.Test.YtfmnecknfmgggaaGreatDoorDeR2
namespace Go.Proofs.YtfmnecknfmgggaaGreatDoor
set_option linter.unusedSimpArgs false
set_option linter.unusedVariables false
open Go.RowKit Go.Lib

theorem tabS_bdd : Lk.bdd tabS.data.toList 0 0 = true := by decide +kernel

/-- what the document's Full comes to -/
def RFullRes (l : List Int) (w : World) (e : Ending) (w' : World) : Prop := ∃ v, e = .returned v ∧ RI w' v l ∧ Below w.heap.size w w'

theorem rtab_any (r : Int) (w : World) : Calls Tryz.prog 63 #[.string tabS, .int .i64 r] w (FoundR (Lk.look Dcp.T r) w) := by
  have h := rfind_any tabS r tabS_size tabS_bdd w
  rw [Lk.scan_eq, tabS_rows] at h
  exact h

set_option maxHeartbeats 1600000 in
theorem rfull_free (r : Int) (w : World) :
    Calls Tryz.prog 40 #[.int .i64 r] w (RFullRes (Dcp.fullI r) w) := by
  obtain ⟨i0, hi, hz0, hz1, hz2⟩ := info_parts info_i
  by_cases h1 : 0xAC00 ≤ r ∧ r ≤ 0xD7A3
  · have hf := Dcp.full_syl h1
    obtain ⟨h1a, h1b⟩ := h1
    rw [hf]
    clear hf
    obtain ⟨s, hs⟩ : ∃ s, r - 44032 = s := ⟨_, rfl⟩
    rw [hs]
    have hs0 : 0 ≤ s ∧ s < 11172 := by omega
    obtain ⟨hs1, hs2⟩ := hs0
    obtain ⟨x, hx⟩ : ∃ x, 4352 + s / 588 = x := ⟨_, rfl⟩
    obtain ⟨y, hy⟩ : ∃ y, 4449 + s % 588 / 28 = y := ⟨_, rfl⟩
    by_cases ht : s % 28 = 0
    · have hsl : Dcp.sylL s = [0x1100 + s / 588, 0x1161 + s % 588 / 28] := by unfold Dcp.sylL; rw [if_pos ht]
      rw [hx, hy] at hsl
      replace hsl := Lib.hid hsl
      go_enter Tryz.func40, Tryz.ntmps40
      go_wp2_with fail
      go_ret
      exact ⟨_, rfl, ri_cast (ri_of_own (ownI_lit w.heap.size w [x, y] _ w.heap.size 2 rfl (Nat.le_refl _) rfl rfl (by unfold maxLen; omega))) hsl.out.symm, below_new _ _⟩
    · have hsl : Dcp.sylL s = [0x1100 + s / 588, 0x1161 + s % 588 / 28] ++ [0x11A7 + s % 28] := by unfold Dcp.sylL; rw [if_neg ht]; rfl
      have ht0 : (s % 28 == 0) = false := by simpa using ht
      have ht1 : (s % 28 != 0) = true := by simpa using ht
      obtain ⟨z, hz⟩ : ∃ z, 4519 + s % 28 = z := ⟨_, rfl⟩
      rw [hx, hy, hz] at hsl
      replace hsl := Lib.hid hsl
      have hown := ownI_lit w.heap.size w [x, y] #[.int .i64 x, .int .i64 y] w.heap.size 2 rfl (Nat.le_refl _) rfl rfl (by unfold maxLen; omega)
      have hone := ri_src (ri_of_own (ownI_lit w.heap.size (w.alloc (.cells #[.int .i64 x, .int .i64 y] 3)) [z] #[.int .i64 z] (w.heap.size + 1) 1 (by simp) (by omega) rfl rfl (by unfold maxLen; omega)))
      have hown2 := Lib.hid (ownI_alloc hown (.cells #[.int .i64 z] 3))
      have hbel := Lib.hid (((below_new w (.cells #[.int .i64 x, .int .i64 y] 3)).alloc (by simp) (.cells #[.int .i64 z] 3)))
      clear ht hown
      go_enter Tryz.func40, Tryz.ntmps40
      go_wp2_with (at_builtin; refine wpList_append_src rfl _ _ 22 rfl w.heap.size 3 i0 (.int .i64 0) 8 Tryz.underlying22 hi hz0 hz1 hz2 rfl _ _ _ rfl hown2.out _ _ rfl hone (oneCellI [z]) (by unfold maxLen; simp) (by simp) hbel.out.size ?_; intro v5 w5 hown5 hgrow5)
      have hown6 := ownI_of_row (l := [x, y] ++ [z]) hown5 (by simp) (by simp)
      have hbel6 := below_row hbel.out hgrow5 hbel.out.size hown2.out (Nat.le_refl _)
      go_ret
      exact ⟨_, rfl, ri_cast (ri_of_own hown6) hsl.out.symm, hbel6⟩
  have f1 : (decide (44032 ≤ r) && decide (r ≤ 55203)) = false := by simp; omega
  by_cases h2 : 0xFF01 ≤ r ∧ r ≤ 0xFF5E
  · have hf := Dcp.full_wide h2
    obtain ⟨h2a, h2b⟩ := h2
    have h44 : 44032 ≤ r := by omega
    have h55 : decide (r ≤ 55203) = false := by simp; omega
    clear h1 f1
    rw [hf]
    clear hf
    go_enter Tryz.func40, Tryz.ntmps40
    go_wp2_with fail
    go_ret
    exact ⟨_, rfl, ri_of_own (ownI_lit w.heap.size _ [r - 65248] _ _ 1 rfl (Nat.le_refl _) rfl rfl (by unfold maxLen; omega)), below_new _ _⟩
  have hl := Lib.hid (rtab_any r)
  have key : ∀ (o : Option (List Int)), Lk.look Dcp.T r = o → Calls Tryz.prog 40 #[.int .i64 r] w (RFullRes (o.getD [r]) w) := by
    intro o ho
    rw [ho] at hl
    clear ho
    by_cases ha : 44032 ≤ r
    · have hb : decide (r ≤ 55203) = false := by simp; omega
      by_cases hc : 65281 ≤ r
      · have hd : decide (r ≤ 65374) = false := by simp; omega
        clear h1 h2 f1
        cases o with
        | none =>
          go_enter Tryz.func40, Tryz.ntmps40
          go_wp2_with fail
          refine (table_any _).mono ?_
          rintro e w1 ⟨rfl, rfl⟩
          go_wp2_with fail
          refine (hl.out _).mono ?_
          rintro e w1 ⟨v, rfl, hv, hb1⟩
          replace hv := Lib.hid hv
          replace hb1 := Lib.hid hb1
          go_wp2_with fail
          go_ret
          exact ⟨_, rfl, ri_of_own (ownI_lit w1.heap.size _ [r] _ _ 1 rfl (Nat.le_refl _) rfl rfl (by unfold maxLen; omega)), hb1.out.alloc hb1.out.size _⟩
        | some p =>
          go_enter Tryz.func40, Tryz.ntmps40
          go_wp2_with fail
          refine (table_any _).mono ?_
          rintro e w1 ⟨rfl, rfl⟩
          go_wp2_with fail
          refine (hl.out _).mono ?_
          rintro e w1 ⟨v, rfl, hv, hb1⟩
          replace hv := Lib.hid hv
          replace hb1 := Lib.hid hb1
          go_wp2_with fail
          go_ret
          exact ⟨_, rfl, hv.out, hb1.out⟩
      · have hd : decide (65281 ≤ r) = false := by simp; omega
        clear h1 h2 f1
        cases o with
        | none =>
          go_enter Tryz.func40, Tryz.ntmps40
          go_wp2_with fail
          refine (table_any _).mono ?_
          rintro e w1 ⟨rfl, rfl⟩
          go_wp2_with fail
          refine (hl.out _).mono ?_
          rintro e w1 ⟨v, rfl, hv, hb1⟩
          replace hv := Lib.hid hv
          replace hb1 := Lib.hid hb1
          go_wp2_with fail
          go_ret
          exact ⟨_, rfl, ri_of_own (ownI_lit w1.heap.size _ [r] _ _ 1 rfl (Nat.le_refl _) rfl rfl (by unfold maxLen; omega)), hb1.out.alloc hb1.out.size _⟩
        | some p =>
          go_enter Tryz.func40, Tryz.ntmps40
          go_wp2_with fail
          refine (table_any _).mono ?_
          rintro e w1 ⟨rfl, rfl⟩
          go_wp2_with fail
          refine (hl.out _).mono ?_
          rintro e w1 ⟨v, rfl, hv, hb1⟩
          replace hv := Lib.hid hv
          replace hb1 := Lib.hid hb1
          go_wp2_with fail
          go_ret
          exact ⟨_, rfl, hv.out, hb1.out⟩
    · have hb : decide (44032 ≤ r) = false := by simp; omega
      have hd : decide (65281 ≤ r) = false := by simp; omega
      clear h1 h2 f1
      cases o with
      | none =>
        go_enter Tryz.func40, Tryz.ntmps40
        go_wp2_with fail
        refine (table_any _).mono ?_
        rintro e w1 ⟨rfl, rfl⟩
        go_wp2_with fail
        refine (hl.out _).mono ?_
        rintro e w1 ⟨v, rfl, hv, hb1⟩
        replace hv := Lib.hid hv
        replace hb1 := Lib.hid hb1
        go_wp2_with fail
        go_ret
        exact ⟨_, rfl, ri_of_own (ownI_lit w1.heap.size _ [r] _ _ 1 rfl (Nat.le_refl _) rfl rfl (by unfold maxLen; omega)), hb1.out.alloc hb1.out.size _⟩
      | some p =>
        go_enter Tryz.func40, Tryz.ntmps40
        go_wp2_with fail
        refine (table_any _).mono ?_
        rintro e w1 ⟨rfl, rfl⟩
        go_wp2_with fail
        refine (hl.out _).mono ?_
        rintro e w1 ⟨v, rfl, hv, hb1⟩
        replace hv := Lib.hid hv
        replace hb1 := Lib.hid hb1
        go_wp2_with fail
        go_ret
        exact ⟨_, rfl, hv.out, hb1.out⟩
  have h := key _ rfl
  have hf : Dcp.fullI r = (Lk.look Dcp.T r).getD [r] := by unfold Dcp.fullI; rw [if_neg h1, if_neg h2]
  rw [hf]
  exact h

/-- is it made of something else, by the document? -/
def risB (r : Int) : Bool := !decide (Dcp.fullI r = [r])

theorem rfull_any (r : Int) (_ : -9223372036854775808 ≤ r ∧ r ≤ 9223372036854775807) (w : World) : Calls Tryz.prog 40 #[.int .i64 r] w (RFullRes (Dcp.fullI r) w) := rfull_free r w

end Go.Proofs.YtfmnecknfmgggaaGreatDoor
