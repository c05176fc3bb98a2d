/- Layer 7: the document's Insert. -/
import Derived.Test.YtfmnecknfmgggaaGreatDoorMthP
import Derived.Test.YtfmnecknfmgggaaGreatDoorPrRP
import Derived.Test.YtfmnecknfmgggaaGreatDoorBasP
import Derived.IntWalk
namespace Go.Proofs.YtfmnecknfmgggaaGreatDoor
set_option linter.unusedSimpArgs false
set_option linter.unusedVariables false
open Go.RowKit Go.Lib
open Prp (mrkB cccI)

namespace Can
theorem insR_past {r : Int} (A B : List Int) (h : ∀ x ∈ A, mrkB x = true ∧ cccI r < cccI x) : insR r (A ++ B) = A ++ insR r B := by
  induction A with
  | nil => rfl
  | cons x t ih =>
    rw [List.cons_append, insR, if_pos (h x (List.mem_cons_self ..)), ih fun y hy => h y (List.mem_cons_of_mem _ hy)]
    rfl

/-- where a mark is put -/
theorem ins_at (l : List Int) (r : Int) (k : Nat) (hk : k ≤ l.length) (h1 : ∀ j (hj : j < l.length), k ≤ j → mrkB l[j] = true ∧ cccI r < cccI l[j])
    (h2 : k = 0 ∨ ∃ h : k - 1 < l.length, ¬ (mrkB l[k - 1] = true ∧ cccI r < cccI l[k - 1])) : (insR r l.reverse).reverse = l.take k ++ r :: l.drop k := by
  have e : l.reverse = (l.drop k).reverse ++ (l.take k).reverse := by rw [← List.reverse_append, List.take_append_drop]
  rw [e, insR_past]
  · have hb : insR r (l.take k).reverse = r :: (l.take k).reverse := by
      rcases h2 with rfl | ⟨h, hn⟩
      · simp [insR]
      · rcases Nat.eq_zero_or_pos k with rfl | hk0
        · simp [insR]
        have ht : l.take k = l.take (k - 1) ++ [l[k - 1]] := by
          conv => lhs; rw [show k = k - 1 + 1 by omega]
          rw [List.take_succ_eq_append_getElem h]
        rw [ht, List.reverse_append, List.reverse_singleton, List.singleton_append, insR, if_neg hn]
    rw [hb]
    simp
  · intro x hx
    rw [List.mem_reverse] at hx
    obtain ⟨j, hj, rfl⟩ := List.mem_iff_getElem.1 hx
    rw [List.length_drop] at hj
    rw [List.getElem_drop]
    exact h1 (k + j) (by omega) (by omega)

def insF (l : List Int) (r : Int) : List Int := (insR r l.reverse).reverse
theorem insF_len (l : List Int) (r : Int) : (insF l r).length = l.length + 1 := by unfold insF; rw [List.length_reverse, insR_len, List.length_reverse]
end Can

theorem rmarkOf (r : Int) (c : Bool) (h : Prp.mrkB r = c) (w : World) : Calls Tryz.prog 37 #[.int .i64 r] w fun e w' => e = .returned (.bool c) ∧ Below w.heap.size w w' := h ▸ rmark_any r w
theorem rcccOf (r : Int) (c : Int) (h : Prp.cccI r = c) (w : World) : Calls Tryz.prog 61 #[.int .i64 r] w fun e w' => e = .returned (.int .i64 c) ∧ Below w.heap.size w w' := h ▸ rccc_any r w

set_option maxHeartbeats 3200000 in
theorem rinsert_any (v : Value) (l : List Int) (r : Int) (w : World) (hl : l.length ≤ 1000000) (hv : RI w v l) : Calls Tryz.prog 66 #[v, .int .i64 r] w (Makes (Can.insF l r) w) := by
  obtain ⟨i0, hi, hz0, hz1, hz2⟩ := info_parts info_i
  obtain ⟨p, cap, rfl⟩ := ri_form hv
  obtain ⟨_, hcap, hnil⟩ := ri_cap hv
  have hcc := rccc_any r
  obtain ⟨c, hc⟩ : ∃ c, cccI r = c := ⟨_, rfl⟩
  rw [hc] at hcc
  replace hc := Lib.hid hc
  replace hcc := Lib.hid hcc
  replace hv := Lib.hid hv
  go_enter Tryz.func66, Tryz.ntmps66
  go_wp2_with fail
  refine (hcc.out _).mono ?_
  rintro e w1 ⟨rfl, hb1⟩
  replace hb1 := Lib.hid hb1
  go_wp2_with fail
  go_loopg [6] l.length (fun g vk wr => ∃ k : Nat, k ≤ l.length ∧ vk = .int .i64 k ∧ k = g ∧ Hid (∀ j (hj : j < l.length), k ≤ j → mrkB l[j] = true ∧ cccI r < cccI l[j]) ∧ Below w.heap.size w wr)
  case atStart => exact ⟨l.length, Nat.le_refl _, rfl, rfl, Lib.hid fun j hj h => absurd h (by omega), hb1.out⟩
  case round =>
    obtain ⟨k, hk, rfl, rfl, hmk, hbel⟩ := hrel
    by_cases hk0 : k = 0
    · subst hk0
      have hins : Can.insF l r = l.take 0 ++ r :: l.drop 0 := Can.ins_at l r 0 hk hmk.out (.inl rfl)
      replace hins := Lib.hid hins
      replace hbel := Lib.hid hbel
      cases p with
      | none =>
        obtain rfl : cap = 0 := hnil rfl
        obtain rfl : l = [] := List.eq_nil_of_length_eq_zero (by omega)
        have hown0 := Lib.hid (ownI_lit w.heap.size wr [] #[] wr.heap.size 0 rfl hbel.out.size rfl rfl (by unfold maxLen; omega))
        have hbel0 := Lib.hid (hbel.out.alloc hbel.out.size (.cells #[] 3))
        have hsrc0 := Lib.hid (ri_src (ri_take (ri_below (ri_below hv.out hbel.out) (below_new wr (.cells #[] 3))) 0 hk))
        go_upto_region 6 with (at_builtin; refine wpList_append_src rfl _ _ 22 rfl w.heap.size 3 i0 (.int .i64 0) 8 Tryz.underlying22 hi hz0 hz1 hz2 rfl _ _ _ rfl hown0.out _ _ rfl hsrc0.out (oneCellI _) (by simp only [List.length_map, List.length_append, List.length_take, List.length_drop, List.length_cons, List.length_nil, List.length_singleton]; unfold maxLen; omega) (by simp only [List.length_map, List.length_append, List.length_take, List.length_drop, List.length_cons, List.length_nil, List.length_singleton]; omega) hbel0.out.size ?_; intro v5 w5 ho5 hg5; have o5 := Lib.hid (ownI_of_row (l := ([] : List Int).take 0) ho5 (by (try simp); try omega) (by (try simp); try omega)); have b5 := Lib.hid (below_row hbel0.out hg5 hbel0.out.size hown0.out (Nat.le_refl _)); clear ho5 hg5)
        have o5' := Lib.hid (ownI_alloc o5.out (.cells #[.int .i64 r] 3))
        have b5' := Lib.hid (b5.out.alloc b5.out.size (.cells #[.int .i64 r] 3))
        have s5 := Lib.hid (ri_src (ri_of_own (ownI_lit w.heap.size w5 [r] #[.int .i64 r] w5.heap.size 1 rfl b5.out.size rfl rfl (by unfold maxLen; omega))))
        go_upto_region 7 with (at_builtin; refine wpList_append_src rfl _ _ 22 rfl w.heap.size 3 i0 (.int .i64 0) 8 Tryz.underlying22 hi hz0 hz1 hz2 rfl _ _ _ rfl o5'.out _ _ rfl s5.out (oneCellI _) (by simp only [List.length_map, List.length_append, List.length_take, List.length_drop, List.length_cons, List.length_nil, List.length_singleton]; unfold maxLen; omega) (by simp only [List.length_map, List.length_append, List.length_take, List.length_drop, List.length_cons, List.length_nil, List.length_singleton]; omega) b5'.out.size ?_; intro v6 w6 ho6 hg6; have o6 := Lib.hid (ownI_of_row (l := ([] : List Int).take 0 ++ [r]) ho6 (by (try simp); try omega) (by (try simp); try omega)); have b6 := Lib.hid (below_row b5'.out hg6 b5'.out.size o5'.out (Nat.le_refl _)); clear ho6 hg6)
        have s6 := Lib.hid (ri_src (ri_nil w6))
        go_wp2_with (at_builtin; refine wpList_append_src rfl _ _ 22 rfl w.heap.size 3 i0 (.int .i64 0) 8 Tryz.underlying22 hi hz0 hz1 hz2 rfl _ _ _ rfl o6.out _ _ rfl s6.out (oneCellI _) (by simp only [List.length_map, List.length_append, List.length_take, List.length_drop, List.length_cons, List.length_nil, List.length_singleton]; unfold maxLen; omega) (by simp only [List.length_map, List.length_append, List.length_take, List.length_drop, List.length_cons, List.length_nil, List.length_singleton]; omega) b6.out.size ?_; intro v7 w7 ho7 hg7; have o7 := Lib.hid (ownI_of_row (l := (([] : List Int).take 0 ++ [r]) ++ ([] : List Int).drop 0) ho7 (by (try simp); try omega) (by (try simp); try omega)); have b7 := Lib.hid (below_row b6.out hg7 b6.out.size o6.out (Nat.le_refl _)); clear ho7 hg7)
        go_ret
        exact ⟨_, rfl, ownI_cast o7.out (by rw [hins.out]; simp), b7.out⟩
      | some a =>
        have hown0 := Lib.hid (ownI_lit w.heap.size wr [] #[] wr.heap.size 0 rfl hbel.out.size rfl rfl (by unfold maxLen; omega))
        have hbel0 := Lib.hid (hbel.out.alloc hbel.out.size (.cells #[] 3))
        have hsrc0 := Lib.hid (ri_src (ri_take (ri_below (ri_below hv.out hbel.out) (below_new wr (.cells #[] 3))) 0 hk))
        go_upto_region 6 with (at_builtin; refine wpList_append_src rfl _ _ 22 rfl w.heap.size 3 i0 (.int .i64 0) 8 Tryz.underlying22 hi hz0 hz1 hz2 rfl _ _ _ rfl hown0.out _ _ rfl hsrc0.out (oneCellI _) (by simp only [List.length_map, List.length_append, List.length_take, List.length_drop, List.length_cons, List.length_nil, List.length_singleton]; unfold maxLen; omega) (by simp only [List.length_map, List.length_append, List.length_take, List.length_drop, List.length_cons, List.length_nil, List.length_singleton]; omega) hbel0.out.size ?_; intro v5 w5 ho5 hg5; have o5 := Lib.hid (ownI_of_row (l := (l : List Int).take 0) ho5 (by (try simp); try omega) (by (try simp); try omega)); have b5 := Lib.hid (below_row hbel0.out hg5 hbel0.out.size hown0.out (Nat.le_refl _)); clear ho5 hg5)
        have o5' := Lib.hid (ownI_alloc o5.out (.cells #[.int .i64 r] 3))
        have b5' := Lib.hid (b5.out.alloc b5.out.size (.cells #[.int .i64 r] 3))
        have s5 := Lib.hid (ri_src (ri_of_own (ownI_lit w.heap.size w5 [r] #[.int .i64 r] w5.heap.size 1 rfl b5.out.size rfl rfl (by unfold maxLen; omega))))
        go_upto_region 7 with (at_builtin; refine wpList_append_src rfl _ _ 22 rfl w.heap.size 3 i0 (.int .i64 0) 8 Tryz.underlying22 hi hz0 hz1 hz2 rfl _ _ _ rfl o5'.out _ _ rfl s5.out (oneCellI _) (by simp only [List.length_map, List.length_append, List.length_take, List.length_drop, List.length_cons, List.length_nil, List.length_singleton]; unfold maxLen; omega) (by simp only [List.length_map, List.length_append, List.length_take, List.length_drop, List.length_cons, List.length_nil, List.length_singleton]; omega) b5'.out.size ?_; intro v6 w6 ho6 hg6; have o6 := Lib.hid (ownI_of_row (l := (l : List Int).take 0 ++ [r]) ho6 (by (try simp); try omega) (by (try simp); try omega)); have b6 := Lib.hid (below_row b5'.out hg6 b5'.out.size o5'.out (Nat.le_refl _)); clear ho6 hg6)
        have s6 := Lib.hid (ri_src (ri_below hv.out b6.out))
        go_wp2_with (at_builtin; refine wpList_append_src rfl _ _ 22 rfl w.heap.size 3 i0 (.int .i64 0) 8 Tryz.underlying22 hi hz0 hz1 hz2 rfl _ _ _ rfl o6.out _ _ rfl s6.out (oneCellI _) (by simp only [List.length_map, List.length_append, List.length_take, List.length_drop, List.length_cons, List.length_nil, List.length_singleton]; unfold maxLen; omega) (by simp only [List.length_map, List.length_append, List.length_take, List.length_drop, List.length_cons, List.length_nil, List.length_singleton]; omega) b6.out.size ?_; intro v7 w7 ho7 hg7; have o7 := Lib.hid (ownI_of_row (l := ((l : List Int).take 0 ++ [r]) ++ (l : List Int).drop 0) ho7 (by (try simp); try omega) (by (try simp); try omega)); have b7 := Lib.hid (below_row b6.out hg7 b6.out.size o6.out (Nat.le_refl _)); clear ho7 hg7)
        go_ret
        exact ⟨_, rfl, ownI_cast o7.out (by rw [hins.out]; simp), b7.out⟩
    · have hk1 : 0 < (k : Int) := by omega
      have hk3 : 0 < k := by omega
      obtain ⟨b, off, rfl, hb, hcell⟩ := ri_at (ri_below hv.out hbel) (by omega)
      obtain ⟨m, hm⟩ : ∃ m, k = m + 1 := ⟨k - 1, by omega⟩
      have hml : m < l.length := by omega
      have hcl := hcell m hml
      obtain ⟨x, hx⟩ : ∃ x, l[m]'hml = x := ⟨_, rfl⟩
      rw [hx] at hcl
      have hmki : (k : Int) - 1 = (m : Int) := by omega
      have hmx := rmark_any x
      have hcx := rccc_any x
      obtain ⟨y, hy⟩ : ∃ y, cccI x = y := ⟨_, rfl⟩
      rw [hy] at hcx
      have hout : ¬ (mrkB x = true ∧ c < y) → Can.insF l r = l.take k ++ r :: l.drop k := fun hn => Can.ins_at l r k hk hmk.out (.inr ⟨by omega, by
        subst hm
        simp only [Nat.add_sub_cancel]
        rw [hx, hc.out, hy]
        exact hn⟩)
      have hstep : mrkB x = true ∧ c < y → ∀ j (hj : j < l.length), m ≤ j → mrkB l[j] = true ∧ cccI r < cccI l[j] := by
        intro hxy j hj hmj
        rcases Nat.eq_or_lt_of_le hmj with rfl | h
        · rw [hx]; exact ⟨hxy.1, by rw [hc.out, hy]; exact hxy.2⟩
        · exact hmk.out j hj (by omega)
      have hmk1 : m + 1 ≤ k := by omega
      have hmk2 : k ≤ m + 1 := by omega
      have hkc : (k : Int) ≤ (cap : Int) := by omega
      have hkl : (k : Int) ≤ (l.length : Int) := by omega
      replace hm := Lib.hid hm
      replace hcx := Lib.hid hcx
      replace hx := Lib.hid hx
      replace hy := Lib.hid hy
      clear hcell
      replace hbel := Lib.hid hbel
      cases hmb : mrkB x with
      | true =>
        rw [hmb] at hmx hout hstep
        replace hmx := Lib.hid hmx
        by_cases hcy : c < y
        · replace hstep := Lib.hid (hstep ⟨rfl, hcy⟩)
          clear hout hmb
          go_wp2_with fail
          refine (hmx.out _).mono ?_
          rintro e w2 ⟨rfl, hb2⟩
          have hcl2 : w2.cell? ⟨b, off + m, none⟩ = some (.int .i64 x) := by rw [hb2.cell hb]; exact hcl
          replace hb2 := Lib.hid (below_on hbel.out hb2)
          go_wp2_with fail
          refine (hcx.out _).mono ?_
          rintro e w3 ⟨rfl, hb3⟩
          replace hb3 := Lib.hid (below_on hb2.out hb3)
          go_wp2_with fail
          go_roundg m
          case measure => omega
          case rel => exact ⟨m, by omega, rfl, rfl, hstep, hb3.out⟩
        · have hins := Lib.hid (hout fun h => hcy h.2)
          have hcy' : decide (c < y) = false := decide_eq_false hcy
          clear hout hstep hmb hcy
          by_cases hkn : cap = k
          · obtain rfl : k = cap := hkn.symm
            go_upto_region 5 with (first | (go_at_call 37; refine (hmx.out _).mono ?_; rintro e w2 ⟨rfl, hb2⟩; have hcl2 : w2.cell? ⟨b, off + m, none⟩ = some (.int .i64 x) := (hb2.cell hb).trans hcl; replace hb2 := Lib.hid (below_on hbel.out hb2)) | (go_at_call 61; refine (hcx.out _).mono ?_; rintro e w3 ⟨rfl, hb3⟩; replace hb3 := Lib.hid (below_on hb2.out hb3)))
            have hown0 := Lib.hid (ownI_lit w.heap.size w3 [] #[] w3.heap.size 0 rfl hb3.out.size rfl rfl (by unfold maxLen; omega))
            have hbel0 := Lib.hid (hb3.out.alloc hb3.out.size (.cells #[] 3))
            have hsrc0 := Lib.hid (ri_src (ri_take (ri_below (ri_below hv.out hb3.out) (below_new w3 (.cells #[] 3))) k hk))
            go_upto_region 6 with (at_builtin; refine wpList_append_src rfl _ _ 22 rfl w.heap.size 3 i0 (.int .i64 0) 8 Tryz.underlying22 hi hz0 hz1 hz2 rfl _ _ _ rfl hown0.out _ _ rfl hsrc0.out (oneCellI _) (by simp only [List.length_map, List.length_append, List.length_take, List.length_drop, List.length_cons, List.length_nil, List.length_singleton]; unfold maxLen; omega) (by simp only [List.length_map, List.length_append, List.length_take, List.length_drop, List.length_cons, List.length_nil, List.length_singleton]; omega) hbel0.out.size ?_; intro v5 w5 ho5 hg5; have o5 := Lib.hid (ownI_of_row (l := (l : List Int).take k) ho5 (by (try simp); try omega) (by (try simp); try omega)); have b5 := Lib.hid (below_row hbel0.out hg5 hbel0.out.size hown0.out (Nat.le_refl _)); clear ho5 hg5)
            have o5' := Lib.hid (ownI_alloc o5.out (.cells #[.int .i64 r] 3))
            have b5' := Lib.hid (b5.out.alloc b5.out.size (.cells #[.int .i64 r] 3))
            have s5 := Lib.hid (ri_src (ri_of_own (ownI_lit w.heap.size w5 [r] #[.int .i64 r] w5.heap.size 1 rfl b5.out.size rfl rfl (by unfold maxLen; omega))))
            go_upto_region 7 with (at_builtin; refine wpList_append_src rfl _ _ 22 rfl w.heap.size 3 i0 (.int .i64 0) 8 Tryz.underlying22 hi hz0 hz1 hz2 rfl _ _ _ rfl o5'.out _ _ rfl s5.out (oneCellI _) (by simp only [List.length_map, List.length_append, List.length_take, List.length_drop, List.length_cons, List.length_nil, List.length_singleton]; unfold maxLen; omega) (by simp only [List.length_map, List.length_append, List.length_take, List.length_drop, List.length_cons, List.length_nil, List.length_singleton]; omega) b5'.out.size ?_; intro v6 w6 ho6 hg6; have o6 := Lib.hid (ownI_of_row (l := (l : List Int).take k ++ [r]) ho6 (by (try simp); try omega) (by (try simp); try omega)); have b6 := Lib.hid (below_row b5'.out hg6 b5'.out.size o5'.out (Nat.le_refl _)); clear ho6 hg6)
            have s6 := Lib.hid (ri_src (ri_cast (ri_none w6 (some ⟨b, off, none⟩) 0 (fun h => by cases h)) (List.drop_of_length_le (by omega)).symm))
            go_wp2_with (at_builtin; refine wpList_append_src rfl _ _ 22 rfl w.heap.size 3 i0 (.int .i64 0) 8 Tryz.underlying22 hi hz0 hz1 hz2 rfl _ _ _ rfl o6.out _ _ rfl s6.out (oneCellI _) (by simp only [List.length_map, List.length_append, List.length_take, List.length_drop, List.length_cons, List.length_nil, List.length_singleton]; unfold maxLen; omega) (by simp only [List.length_map, List.length_append, List.length_take, List.length_drop, List.length_cons, List.length_nil, List.length_singleton]; omega) b6.out.size ?_; intro v7 w7 ho7 hg7; have o7 := Lib.hid (ownI_of_row (l := ((l : List Int).take k ++ [r]) ++ (l : List Int).drop k) ho7 (by (try simp); try omega) (by (try simp); try omega)); have b7 := Lib.hid (below_row b6.out hg7 b6.out.size o6.out (Nat.le_refl _)); clear ho7 hg7)
            go_ret
            exact ⟨_, rfl, ownI_cast o7.out (by rw [hins.out]; simp), b7.out⟩
          · go_upto_region 5 with (first | (go_at_call 37; refine (hmx.out _).mono ?_; rintro e w2 ⟨rfl, hb2⟩; have hcl2 : w2.cell? ⟨b, off + m, none⟩ = some (.int .i64 x) := (hb2.cell hb).trans hcl; replace hb2 := Lib.hid (below_on hbel.out hb2)) | (go_at_call 61; refine (hcx.out _).mono ?_; rintro e w3 ⟨rfl, hb3⟩; replace hb3 := Lib.hid (below_on hb2.out hb3)))
            have hown0 := Lib.hid (ownI_lit w.heap.size w3 [] #[] w3.heap.size 0 rfl hb3.out.size rfl rfl (by unfold maxLen; omega))
            have hbel0 := Lib.hid (hb3.out.alloc hb3.out.size (.cells #[] 3))
            have hsrc0 := Lib.hid (ri_src (ri_take (ri_below (ri_below hv.out hb3.out) (below_new w3 (.cells #[] 3))) k hk))
            go_upto_region 6 with (at_builtin; refine wpList_append_src rfl _ _ 22 rfl w.heap.size 3 i0 (.int .i64 0) 8 Tryz.underlying22 hi hz0 hz1 hz2 rfl _ _ _ rfl hown0.out _ _ rfl hsrc0.out (oneCellI _) (by simp only [List.length_map, List.length_append, List.length_take, List.length_drop, List.length_cons, List.length_nil, List.length_singleton]; unfold maxLen; omega) (by simp only [List.length_map, List.length_append, List.length_take, List.length_drop, List.length_cons, List.length_nil, List.length_singleton]; omega) hbel0.out.size ?_; intro v5 w5 ho5 hg5; have o5 := Lib.hid (ownI_of_row (l := (l : List Int).take k) ho5 (by (try simp); try omega) (by (try simp); try omega)); have b5 := Lib.hid (below_row hbel0.out hg5 hbel0.out.size hown0.out (Nat.le_refl _)); clear ho5 hg5)
            have o5' := Lib.hid (ownI_alloc o5.out (.cells #[.int .i64 r] 3))
            have b5' := Lib.hid (b5.out.alloc b5.out.size (.cells #[.int .i64 r] 3))
            have s5 := Lib.hid (ri_src (ri_of_own (ownI_lit w.heap.size w5 [r] #[.int .i64 r] w5.heap.size 1 rfl b5.out.size rfl rfl (by unfold maxLen; omega))))
            go_upto_region 7 with (at_builtin; refine wpList_append_src rfl _ _ 22 rfl w.heap.size 3 i0 (.int .i64 0) 8 Tryz.underlying22 hi hz0 hz1 hz2 rfl _ _ _ rfl o5'.out _ _ rfl s5.out (oneCellI _) (by simp only [List.length_map, List.length_append, List.length_take, List.length_drop, List.length_cons, List.length_nil, List.length_singleton]; unfold maxLen; omega) (by simp only [List.length_map, List.length_append, List.length_take, List.length_drop, List.length_cons, List.length_nil, List.length_singleton]; omega) b5'.out.size ?_; intro v6 w6 ho6 hg6; have o6 := Lib.hid (ownI_of_row (l := (l : List Int).take k ++ [r]) ho6 (by (try simp); try omega) (by (try simp); try omega)); have b6 := Lib.hid (below_row b5'.out hg6 b5'.out.size o5'.out (Nat.le_refl _)); clear ho6 hg6)
            have hkn' : ¬ k = cap := fun h => hkn h.symm
            have s6 := Lib.hid (ri_src (ri_from (ri_below hv.out b6.out) k hk (by omega)))
            go_wp2_with (at_builtin; refine wpList_append_src rfl _ _ 22 rfl w.heap.size 3 i0 (.int .i64 0) 8 Tryz.underlying22 hi hz0 hz1 hz2 rfl _ _ _ rfl o6.out _ _ rfl s6.out (oneCellI _) (by simp only [List.length_map, List.length_append, List.length_take, List.length_drop, List.length_cons, List.length_nil, List.length_singleton]; unfold maxLen; omega) (by simp only [List.length_map, List.length_append, List.length_take, List.length_drop, List.length_cons, List.length_nil, List.length_singleton]; omega) b6.out.size ?_; intro v7 w7 ho7 hg7; have o7 := Lib.hid (ownI_of_row (l := ((l : List Int).take k ++ [r]) ++ (l : List Int).drop k) ho7 (by (try simp); try omega) (by (try simp); try omega)); have b7 := Lib.hid (below_row b6.out hg7 b6.out.size o6.out (Nat.le_refl _)); clear ho7 hg7)
            go_ret
            exact ⟨_, rfl, ownI_cast o7.out (by rw [hins.out]; simp), b7.out⟩
      | false =>
        rw [hmb] at hmx hout hstep
        replace hmx := Lib.hid hmx
        have hins := Lib.hid (hout fun h => by cases h.1)
        clear hout hstep hmb
        by_cases hkn : cap = k
        · obtain rfl : k = cap := hkn.symm
          go_upto_region 5 with (go_at_call 37; refine (hmx.out _).mono ?_; rintro e w3 ⟨rfl, hb3⟩; replace hb3 := Lib.hid (below_on hbel.out hb3))
          have hown0 := Lib.hid (ownI_lit w.heap.size w3 [] #[] w3.heap.size 0 rfl hb3.out.size rfl rfl (by unfold maxLen; omega))
          have hbel0 := Lib.hid (hb3.out.alloc hb3.out.size (.cells #[] 3))
          have hsrc0 := Lib.hid (ri_src (ri_take (ri_below (ri_below hv.out hb3.out) (below_new w3 (.cells #[] 3))) k hk))
          go_upto_region 6 with (at_builtin; refine wpList_append_src rfl _ _ 22 rfl w.heap.size 3 i0 (.int .i64 0) 8 Tryz.underlying22 hi hz0 hz1 hz2 rfl _ _ _ rfl hown0.out _ _ rfl hsrc0.out (oneCellI _) (by simp only [List.length_map, List.length_append, List.length_take, List.length_drop, List.length_cons, List.length_nil, List.length_singleton]; unfold maxLen; omega) (by simp only [List.length_map, List.length_append, List.length_take, List.length_drop, List.length_cons, List.length_nil, List.length_singleton]; omega) hbel0.out.size ?_; intro v5 w5 ho5 hg5; have o5 := Lib.hid (ownI_of_row (l := (l : List Int).take k) ho5 (by (try simp); try omega) (by (try simp); try omega)); have b5 := Lib.hid (below_row hbel0.out hg5 hbel0.out.size hown0.out (Nat.le_refl _)); clear ho5 hg5)
          have o5' := Lib.hid (ownI_alloc o5.out (.cells #[.int .i64 r] 3))
          have b5' := Lib.hid (b5.out.alloc b5.out.size (.cells #[.int .i64 r] 3))
          have s5 := Lib.hid (ri_src (ri_of_own (ownI_lit w.heap.size w5 [r] #[.int .i64 r] w5.heap.size 1 rfl b5.out.size rfl rfl (by unfold maxLen; omega))))
          go_upto_region 7 with (at_builtin; refine wpList_append_src rfl _ _ 22 rfl w.heap.size 3 i0 (.int .i64 0) 8 Tryz.underlying22 hi hz0 hz1 hz2 rfl _ _ _ rfl o5'.out _ _ rfl s5.out (oneCellI _) (by simp only [List.length_map, List.length_append, List.length_take, List.length_drop, List.length_cons, List.length_nil, List.length_singleton]; unfold maxLen; omega) (by simp only [List.length_map, List.length_append, List.length_take, List.length_drop, List.length_cons, List.length_nil, List.length_singleton]; omega) b5'.out.size ?_; intro v6 w6 ho6 hg6; have o6 := Lib.hid (ownI_of_row (l := (l : List Int).take k ++ [r]) ho6 (by (try simp); try omega) (by (try simp); try omega)); have b6 := Lib.hid (below_row b5'.out hg6 b5'.out.size o5'.out (Nat.le_refl _)); clear ho6 hg6)
          have s6 := Lib.hid (ri_src (ri_cast (ri_none w6 (some ⟨b, off, none⟩) 0 (fun h => by cases h)) (List.drop_of_length_le (by omega)).symm))
          go_wp2_with (at_builtin; refine wpList_append_src rfl _ _ 22 rfl w.heap.size 3 i0 (.int .i64 0) 8 Tryz.underlying22 hi hz0 hz1 hz2 rfl _ _ _ rfl o6.out _ _ rfl s6.out (oneCellI _) (by simp only [List.length_map, List.length_append, List.length_take, List.length_drop, List.length_cons, List.length_nil, List.length_singleton]; unfold maxLen; omega) (by simp only [List.length_map, List.length_append, List.length_take, List.length_drop, List.length_cons, List.length_nil, List.length_singleton]; omega) b6.out.size ?_; intro v7 w7 ho7 hg7; have o7 := Lib.hid (ownI_of_row (l := ((l : List Int).take k ++ [r]) ++ (l : List Int).drop k) ho7 (by (try simp); try omega) (by (try simp); try omega)); have b7 := Lib.hid (below_row b6.out hg7 b6.out.size o6.out (Nat.le_refl _)); clear ho7 hg7)
          go_ret
          exact ⟨_, rfl, ownI_cast o7.out (by rw [hins.out]; simp), b7.out⟩
        · go_upto_region 5 with (go_at_call 37; refine (hmx.out _).mono ?_; rintro e w3 ⟨rfl, hb3⟩; replace hb3 := Lib.hid (below_on hbel.out hb3))
          have hown0 := Lib.hid (ownI_lit w.heap.size w3 [] #[] w3.heap.size 0 rfl hb3.out.size rfl rfl (by unfold maxLen; omega))
          have hbel0 := Lib.hid (hb3.out.alloc hb3.out.size (.cells #[] 3))
          have hsrc0 := Lib.hid (ri_src (ri_take (ri_below (ri_below hv.out hb3.out) (below_new w3 (.cells #[] 3))) k hk))
          go_upto_region 6 with (at_builtin; refine wpList_append_src rfl _ _ 22 rfl w.heap.size 3 i0 (.int .i64 0) 8 Tryz.underlying22 hi hz0 hz1 hz2 rfl _ _ _ rfl hown0.out _ _ rfl hsrc0.out (oneCellI _) (by simp only [List.length_map, List.length_append, List.length_take, List.length_drop, List.length_cons, List.length_nil, List.length_singleton]; unfold maxLen; omega) (by simp only [List.length_map, List.length_append, List.length_take, List.length_drop, List.length_cons, List.length_nil, List.length_singleton]; omega) hbel0.out.size ?_; intro v5 w5 ho5 hg5; have o5 := Lib.hid (ownI_of_row (l := (l : List Int).take k) ho5 (by (try simp); try omega) (by (try simp); try omega)); have b5 := Lib.hid (below_row hbel0.out hg5 hbel0.out.size hown0.out (Nat.le_refl _)); clear ho5 hg5)
          have o5' := Lib.hid (ownI_alloc o5.out (.cells #[.int .i64 r] 3))
          have b5' := Lib.hid (b5.out.alloc b5.out.size (.cells #[.int .i64 r] 3))
          have s5 := Lib.hid (ri_src (ri_of_own (ownI_lit w.heap.size w5 [r] #[.int .i64 r] w5.heap.size 1 rfl b5.out.size rfl rfl (by unfold maxLen; omega))))
          go_upto_region 7 with (at_builtin; refine wpList_append_src rfl _ _ 22 rfl w.heap.size 3 i0 (.int .i64 0) 8 Tryz.underlying22 hi hz0 hz1 hz2 rfl _ _ _ rfl o5'.out _ _ rfl s5.out (oneCellI _) (by simp only [List.length_map, List.length_append, List.length_take, List.length_drop, List.length_cons, List.length_nil, List.length_singleton]; unfold maxLen; omega) (by simp only [List.length_map, List.length_append, List.length_take, List.length_drop, List.length_cons, List.length_nil, List.length_singleton]; omega) b5'.out.size ?_; intro v6 w6 ho6 hg6; have o6 := Lib.hid (ownI_of_row (l := (l : List Int).take k ++ [r]) ho6 (by (try simp); try omega) (by (try simp); try omega)); have b6 := Lib.hid (below_row b5'.out hg6 b5'.out.size o5'.out (Nat.le_refl _)); clear ho6 hg6)
          have hkn' : ¬ k = cap := fun h => hkn h.symm
          have s6 := Lib.hid (ri_src (ri_from (ri_below hv.out b6.out) k hk (by omega)))
          go_wp2_with (at_builtin; refine wpList_append_src rfl _ _ 22 rfl w.heap.size 3 i0 (.int .i64 0) 8 Tryz.underlying22 hi hz0 hz1 hz2 rfl _ _ _ rfl o6.out _ _ rfl s6.out (oneCellI _) (by simp only [List.length_map, List.length_append, List.length_take, List.length_drop, List.length_cons, List.length_nil, List.length_singleton]; unfold maxLen; omega) (by simp only [List.length_map, List.length_append, List.length_take, List.length_drop, List.length_cons, List.length_nil, List.length_singleton]; omega) b6.out.size ?_; intro v7 w7 ho7 hg7; have o7 := Lib.hid (ownI_of_row (l := ((l : List Int).take k ++ [r]) ++ (l : List Int).drop k) ho7 (by (try simp); try omega) (by (try simp); try omega)); have b7 := Lib.hid (below_row b6.out hg7 b6.out.size o6.out (Nat.le_refl _)); clear ho7 hg7)
          go_ret
          exact ⟨_, rfl, ownI_cast o7.out (by rw [hins.out]; simp), b7.out⟩

end Go.Proofs.YtfmnecknfmgggaaGreatDoor
