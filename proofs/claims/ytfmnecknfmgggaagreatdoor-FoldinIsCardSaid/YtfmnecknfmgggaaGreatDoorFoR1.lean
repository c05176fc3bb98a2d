/- Layer 10: the document's Left. -/
import Derived.Test.YtfmnecknfmgggaaGreatDoorCaR1
import Derived.Test.YtfmnecknfmgggaaGreatDoorPrRD
import Derived.Test.YtfmnecknfmgggaaGreatDoorFoM
namespace Go.Proofs.YtfmnecknfmgggaaGreatDoor
set_option linter.unusedSimpArgs false
set_option linter.unusedVariables false
open Go.RowKit Go.Lib

set_option maxHeartbeats 1600000 in
set_option maxRecDepth 100000 in
theorem rleft_any (v : Value) (l : List Int) (w : World) (hl : l.length ≤ 100000) (hv : RI w v l) : Calls Tryz.prog 10 #[v] w (Makes (Fol.leftI l) w) := by
  obtain ⟨i0, hi, hz0, hz1, hz2⟩ := info_parts info_i
  have hall := Lib.hid (rall_any v l w (by omega) hv)
  have hml := (Cas.all_len l).2
  unfold Fol.leftI
  obtain ⟨m, hm⟩ : ∃ m, Cas.allI l = m := ⟨_, rfl⟩
  rw [hm] at hall hml ⊢
  obtain ⟨F, hF⟩ : ∃ F, m.filter (fun r => !Prp.drpB r) = F := ⟨_, rfl⟩
  rw [hF]
  replace hF := Lib.hid hF
  clear hm
  go_enter Tryz.func10, Tryz.ntmps10
  go_wp2_with fail
  refine hall.out.mono ?_
  rintro e w1 ⟨v1, rfl, ho1, hb1⟩
  have hv1 := ri_of_own ho1
  obtain ⟨p, cap, rfl⟩ := ri_form hv1
  replace hv1 := Lib.hid hv1
  replace hb1 := Lib.hid hb1
  clear ho1
  go_wp2_with fail
  go_loopg [4, 5] m.length (fun g vo vi wr => ∃ (k : Nat) (o : List Int), k ≤ m.length ∧ vi = .int .i64 k ∧ g = m.length - k ∧ OwnI w1.heap.size vo o wr ∧ Hid ((m.take k).filter (fun r => !Prp.drpB r) = o) ∧ o.length ≤ k ∧ Below w1.heap.size w1 wr)
  case atStart => exact ⟨0, [], Nat.zero_le _, rfl, rfl, ownI_nil _ _, Lib.hid rfl, by simp, Below.refl _ _⟩
  case round =>
    obtain ⟨k, o, hk, rfl, rfl, hown, hfl, hok, hbel⟩ := hrel
    by_cases hlt : k < m.length
    · have hlt' : (k : Int) < (m.length : Int) := by omega
      obtain ⟨b, off, rfl, hb, hcell⟩ := ri_at hv1.out (by omega)
      have hc0 := hcell k hlt
      have hs : (m.take (k + 1)).filter (fun r => !Prp.drpB r) = o ++ (if Prp.drpB m[k] = true then [] else [m[k]]) := by
        rw [List.take_succ_eq_append_getElem hlt, List.filter_append, hfl.out]
        congr 1
        cases h : Prp.drpB m[k] <;> simp [h]
      obtain ⟨x, hx⟩ : ∃ x, m[k] = x := ⟨_, rfl⟩
      rw [hx] at hc0 hs
      have hc : wr.cell? ⟨b, off + k, none⟩ = some (.int .i64 x) := (hbel.cell hb).trans hc0
      have hdx := rdrops_any x
      replace hc0 := Lib.hid hc0
      cases hdb : Prp.drpB x with
      | true =>
        rw [hdb] at hdx hs
        simp only [if_true, List.append_nil] at hs
        replace hdx := Lib.hid hdx
        replace hs := Lib.hid hs
        replace hown := Lib.hid hown
        replace hbel := Lib.hid hbel
        clear hcell hx hdb hfl
        go_wp2_with fail
        refine (hdx.out _).mono ?_
        rintro e w2 ⟨rfl, hb2⟩
        have o2 := Lib.hid (ownI_below hown.out hb2)
        replace hb2 := Lib.hid (below_on hbel.out hb2)
        go_wp2_with fail
        go_roundg (m.length - (k + 1))
        case measure => omega
        case rel => exact ⟨k + 1, o, by omega, by go_num, rfl, o2.out, hs, by omega, hb2.out⟩
      | false =>
        rw [hdb] at hdx hs
        simp only [Bool.false_eq_true, if_false] at hs
        replace hdx := Lib.hid hdx
        replace hs := Lib.hid hs
        replace hown := Lib.hid hown
        replace hbel := Lib.hid hbel
        clear hcell hx hdb hfl
        go_upto_region 7 with (go_at_call 24; refine (hdx.out _).mono ?_; rintro e w2 ⟨rfl, hb2⟩; have o2 := Lib.hid (ownI_alloc (ownI_below hown.out hb2) (.cells #[.int .i64 x] 3)); replace hb2 := Lib.hid (below_on hbel.out hb2))
        have hc2 : w2.cell? ⟨b, off + k, none⟩ = some (.int .i64 x) := (hb2.out.cell hb).trans hc0.out
        have b2 := Lib.hid (hb2.out.alloc hb2.out.size (.cells #[.int .i64 x] 3))
        have s2 := Lib.hid (ri_src (ri_of_own (ownI_lit w1.heap.size w2 [x] #[.int .i64 x] w2.heap.size 1 rfl hb2.out.size rfl rfl (by unfold maxLen; omega))))
        go_wp2_with (at_builtin; refine wpList_append_src rfl _ _ 22 rfl w1.heap.size 3 i0 (.int .i64 0) 8 Tryz.underlying22 hi hz0 hz1 hz2 rfl _ _ _ rfl o2.out _ _ rfl s2.out (oneCellI _) (by simp only [List.length_map, List.length_append, List.length_take, List.length_drop, List.length_cons, List.length_nil, List.length_singleton]; unfold maxLen; omega) (by simp only [List.length_map, List.length_append, List.length_take, List.length_drop, List.length_cons, List.length_nil, List.length_singleton]; omega) b2.out.size ?_; intro v5 w5 ho5 hg5; have o5 := Lib.hid (ownI_of_row (l := o ++ [x]) ho5 (by (try simp); try omega) (by (try simp); try omega)); have b5 := Lib.hid (below_row b2.out hg5 b2.out.size o2.out (Nat.le_refl _)); clear ho5 hg5)
        go_roundg (m.length - (k + 1))
        case measure => omega
        case rel => exact ⟨k + 1, o ++ [x], by omega, by go_num, rfl, o5.out, hs, by simp; omega, b5.out⟩
    · obtain rfl : k = m.length := by omega
      have hlt' : decide ((m.length : Int) < (m.length : Int)) = false := by simp
      have hf2 := hfl.out
      rw [List.take_length, hF.out] at hf2
      replace hf2 := Lib.hid hf2
      replace hown := Lib.hid hown
      replace hbel := Lib.hid hbel
      clear hfl
      go_wp2_with fail
      go_ret
      exact ⟨_, rfl, by rw [hf2.out]; exact ownI_mono hown.out hb1.out.size, hb1.out.trans (hbel.out.mono hb1.out.size)⟩

end Go.Proofs.YtfmnecknfmgggaaGreatDoor
