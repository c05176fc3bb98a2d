/- Layer 7: the document's Order, Sorted, Marks. -/
import Derived.Test.YtfmnecknfmgggaaGreatDoorCnR1
import Derived.Test.YtfmnecknfmgggaaGreatDoorBasP
import Derived.Deep.LoopGhost
import Derived.Deep.DeepCutAuto
namespace Go.Proofs.YtfmnecknfmgggaaGreatDoor
set_option linter.unusedSimpArgs false
set_option linter.unusedVariables false
open Go.RowKit Go.Lib

namespace Can
theorem order_snoc (l : List Int) (x : Int) : orderI (l ++ [x]) = if Prp.mrkB x = true then insF (orderI l) x else orderI l ++ [x] := by
  unfold orderI insF
  rw [orderR_app, orderR_one]
  unfold stepR
  split
  · rw [List.reverse_reverse]
  · rw [List.reverse_cons]
end Can

set_option maxHeartbeats 1600000 in
theorem rorder_any (v : Value) (l : List Int) (w : World) (hl : l.length ≤ 1000000) (hv : RI w v l) : Calls Tryz.prog 62 #[v] w (Makes (Can.orderI l) w) := by
  obtain ⟨i0, hi, hz0, hz1, hz2⟩ := info_parts info_i
  obtain ⟨p, cap, rfl⟩ := ri_form hv
  replace hv := Lib.hid hv
  go_enter Tryz.func62, Tryz.ntmps62
  go_wp2_with fail
  go_loopg [3, 4] l.length (fun g vo vi wr => ∃ k : Nat, k ≤ l.length ∧ vi = .int .i64 k ∧ g = l.length - k ∧ OwnI w.heap.size vo (Can.orderI (l.take k)) wr ∧ Below w.heap.size w wr)
  case atStart => exact ⟨0, Nat.zero_le _, rfl, rfl, ownI_nil _ _, Below.refl _ _⟩
  case round =>
    obtain ⟨k, hk, rfl, rfl, hown, hbel⟩ := hrel
    by_cases hlt : k < l.length
    · have hlt' : (k : Int) < (l.length : Int) := by omega
      obtain ⟨b, off, rfl, hb, hcell⟩ := ri_at (ri_below hv.out hbel) (by omega)
      have hc := hcell k hlt
      obtain ⟨x, hx⟩ : ∃ x, l[k] = x := ⟨_, rfl⟩
      have hsn : l.take (k + 1) = l.take k ++ [x] := by rw [List.take_succ_eq_append_getElem hlt, hx]
      rw [hx] at hc
      have hstep := Can.order_snoc (l.take k) x
      rw [← hsn] at hstep
      have hlen := Can.orderI_len (l.take k)
      rw [List.length_take] at hlen
      obtain ⟨m, hm⟩ : ∃ m, Can.orderI (l.take k) = m := ⟨_, rfl⟩
      rw [hm] at hown hstep hlen
      have hml : m.length ≤ 1000000 := by omega
      have hmx := rmark_any x
      cases hmb : Prp.mrkB x with
      | true =>
        rw [hmb] at hmx
        rw [if_pos hmb] at hstep
        replace hmx := Lib.hid hmx
        replace hstep := Lib.hid hstep
        replace hown := Lib.hid hown
        replace hbel := Lib.hid hbel
        clear hcell hsn hx hm hlen hmb
        go_wp2_with fail
        refine (hmx.out _).mono ?_
        rintro e w2 ⟨rfl, hb2⟩
        have hc2 : w2.cell? ⟨b, off + k, none⟩ = some (.int .i64 x) := (hb2.cell hb).trans hc
        have hri := ri_of_own (ownI_below hown.out hb2)
        have hins := Lib.hid (rinsert_any _ m x w2 hml hri)
        replace hb2 := Lib.hid (below_on hbel.out hb2)
        clear hri
        go_wp2_with fail
        refine hins.out.mono ?_
        rintro e w3 ⟨v3, rfl, ho3, hb3⟩
        have ho3' := Lib.hid (ownI_mono ho3 hb2.out.size)
        replace hb3 := Lib.hid (below_on hb2.out hb3)
        clear ho3
        go_wp2_with fail
        go_roundg (l.length - (k + 1))
        case measure => omega
        case rel => exact ⟨k + 1, by omega, by go_num, rfl, by rw [hstep.out]; exact ho3'.out, hb3.out⟩
      | false =>
        rw [hmb] at hmx
        rw [if_neg (by rw [hmb]; simp)] at hstep
        replace hmx := Lib.hid hmx
        replace hstep := Lib.hid hstep
        replace hown := Lib.hid hown
        replace hbel := Lib.hid hbel
        clear hcell hsn hx hm hlen hmb
        go_wp2_with fail
        refine (hmx.out _).mono ?_
        rintro e w2 ⟨rfl, hb2⟩
        have hc2 : w2.cell? ⟨b, off + k, none⟩ = some (.int .i64 x) := (hb2.cell hb).trans hc
        have o2 := Lib.hid (ownI_alloc (ownI_below hown.out hb2) (.cells #[.int .i64 x] 3))
        replace hb2 := Lib.hid (below_on hbel.out hb2)
        have b2 := Lib.hid (hb2.out.alloc hb2.out.size (.cells #[.int .i64 x] 3))
        have s2 := Lib.hid (ri_src (ri_of_own (ownI_lit w.heap.size w2 [x] #[.int .i64 x] w2.heap.size 1 rfl hb2.out.size rfl rfl (by unfold maxLen; omega))))
        go_wp2_with (at_builtin; refine wpList_append_src rfl _ _ 22 rfl w.heap.size 3 i0 (.int .i64 0) 8 Tryz.underlying22 hi hz0 hz1 hz2 rfl _ _ _ rfl o2.out _ _ rfl s2.out (oneCellI _) (by simp only [List.length_map, List.length_append, List.length_take, List.length_drop, List.length_cons, List.length_nil, List.length_singleton]; unfold maxLen; omega) (by simp only [List.length_map, List.length_append, List.length_take, List.length_drop, List.length_cons, List.length_nil, List.length_singleton]; omega) b2.out.size ?_; intro v5 w5 ho5 hg5; have o5 := Lib.hid (ownI_of_row (l := m ++ [x]) ho5 (by (try simp); try omega) (by (try simp); try omega)); have b5 := Lib.hid (below_row b2.out hg5 b2.out.size o2.out (Nat.le_refl _)); clear ho5 hg5)
        go_roundg (l.length - (k + 1))
        case measure => omega
        case rel => exact ⟨k + 1, by omega, by go_num, rfl, by rw [hstep.out]; exact o5.out, b5.out⟩
    · obtain rfl : k = l.length := by omega
      have hlt' : decide ((l.length : Int) < (l.length : Int)) = false := by simp
      rw [List.take_length] at hown
      replace hown := Lib.hid hown
      replace hbel := Lib.hid hbel
      go_wp2_with fail
      go_ret
      exact ⟨_, rfl, hown.out, hbel.out⟩

set_option maxHeartbeats 800000 in
theorem rsorted_any (v : Value) (l : List Int) (w : World) (hl : l.length ≤ 100000) (hv : RI w v l) : Calls Tryz.prog 39 #[v] w fun e w' => e = .returned (.bool (Can.sortedB l)) ∧ Below w.heap.size w w' := by
  have ho := Lib.hid (rorder_any v l w (by omega) hv)
  have hs : Can.sortedB l = sameB (Can.orderI l) l := by rw [Can.sorted_iff]; rfl
  rw [hs]
  have hlen := Can.orderI_len l
  obtain ⟨m, hm⟩ : ∃ m, Can.orderI l = m := ⟨_, rfl⟩
  rw [hm] at ho hlen ⊢
  have hml : m.length ≤ 100000 := by omega
  replace hv := Lib.hid hv
  clear hs hm hlen
  go_enter Tryz.func39, Tryz.ntmps39
  go_wp2_with fail
  refine ho.out.mono ?_
  rintro e w1 ⟨v1, rfl, ho1, hb1⟩
  have hsame := Lib.hid (same_any v1 v m l w1 hml (ri_of_own ho1) (ri_below hv.out hb1))
  replace hb1 := Lib.hid hb1
  clear ho1
  go_wp2_with fail
  refine hsame.out.mono ?_
  rintro e w2 ⟨rfl, n, rfl⟩
  have hb2 := Lib.hid (below_on hb1.out (drewN_below w1 n))
  go_wp2_with fail
  go_ret
  exact ⟨rfl, hb2.out⟩

namespace Can
theorem runB_step (l : List Int) (k : Nat) (h : k < l.length) (n : Nat) : runB ((l.drop k).map Prp.mrkB) n = max (if Prp.mrkB l[k] = true then n + 1 else 0) (runB ((l.drop (k + 1)).map Prp.mrkB) (if Prp.mrkB l[k] = true then n + 1 else 0)) := by
  rw [List.drop_eq_getElem_cons h, List.map_cons, runB]
end Can


end Go.Proofs.YtfmnecknfmgggaaGreatDoor
