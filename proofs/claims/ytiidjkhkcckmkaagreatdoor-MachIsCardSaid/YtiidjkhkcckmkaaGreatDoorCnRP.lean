/- Texts that stand together. -/
import Derived.Test.YtiidjkhkcckmkaaGreatDoorMthP
import Derived.Test.YtiidjkhkcckmkaaGreatDoorPrRP
import Derived.Test.YtiidjkhkcckmkaaGreatDoorBasP
import Derived.IntWalk
import Derived.Deep.LoopGhost
import Derived.Deep.DeepCutAuto
import Derived.Test.YtiidjkhkcckmkaaGreatDoorCnP
import Derived.Test.YtiidjkhkcckmkaaGreatDoorPaRP
import Derived.Laws.OwnMore
/- Layer 7: the document's Insert. -/
namespace Go.Proofs.YtiidjkhkcckmkaaGreatDoor
set_option linter.unusedSimpArgs false
set_option linter.unusedVariables false
open Go.RowKit Go.Lib
open Prp (mrkB cccI)
namespace Can
theorem insR_past {r : Int} (A B : List Int) (h : ∀ x ∈ A, mrkB x = true ∧ cccI r < cccI x) : insR r (A ++ B) = A ++ insR r B := by
  induction A with
  | nil => rfl
  | cons x t ih =>
    rw [List.cons_append, insR, if_pos (h x (List.mem_cons_self ..)), ih fun y hy => h y (List.mem_cons_of_mem _ hy)]
    rfl
theorem ins_at (l : List Int) (r : Int) (k : Nat) (hk : k ≤ l.length) (h1 : ∀ j (hj : j < l.length), k ≤ j → mrkB l[j] = true ∧ cccI r < cccI l[j])
    (h2 : k = 0 ∨ ∃ h : k - 1 < l.length, ¬ (mrkB l[k - 1] = true ∧ cccI r < cccI l[k - 1])) : (insR r l.reverse).reverse = l.take k ++ r :: l.drop k := by
  have e : l.reverse = (l.drop k).reverse ++ (l.take k).reverse := by rw [← List.reverse_append, List.take_append_drop]
  rw [e, insR_past]
  · have hb : insR r (l.take k).reverse = r :: (l.take k).reverse := by
      rcases h2 with rfl | ⟨h, hn⟩
      · simp [insR]
      · rcases Nat.eq_zero_or_pos k with rfl | hk0
        · simp [insR]
        have ht : l.take k = l.take (k - 1) ++ [l[k - 1]] := by
          conv => lhs; rw [show k = k - 1 + 1 by omega]
          rw [List.take_succ_eq_append_getElem h]
        rw [ht, List.reverse_append, List.reverse_singleton, List.singleton_append, insR, if_neg hn]
    rw [hb]
    simp
  · intro x hx
    rw [List.mem_reverse] at hx
    obtain ⟨j, hj, rfl⟩ := List.mem_iff_getElem.1 hx
    rw [List.length_drop] at hj
    rw [List.getElem_drop]
    exact h1 (k + j) (by omega) (by omega)
def insF (l : List Int) (r : Int) : List Int := (insR r l.reverse).reverse
end Can
set_option maxHeartbeats 3200000 in
theorem rinsert_any (v : Value) (l : List Int) (r : Int) (w : World) (hl : l.length ≤ 1000000) (hv : RI w v l) : Calls Tryz.prog 108 #[v, .int .i64 r] w (Makes (Can.insF l r) w) := by
  obtain ⟨i0, hi, hz0, hz1, hz2⟩ := info_parts info_i
  obtain ⟨p, cap, rfl⟩ := ri_form hv
  obtain ⟨_, hcap, hnil⟩ := ri_cap hv
  have hcc := rccc_any r
  obtain ⟨c, hc⟩ : ∃ c, cccI r = c := ⟨_, rfl⟩
  rw [hc] at hcc
  replace hc := Lib.hid hc
  replace hcc := Lib.hid hcc
  replace hv := Lib.hid hv
  go_enter Tryz.func108, Tryz.ntmps108
  go_wp2_with fail
  refine (hcc.out _).mono ?_
  rintro e w1 ⟨rfl, hb1⟩
  replace hb1 := Lib.hid hb1
  go_wp2_with fail
  go_loopg [6] l.length (fun g vk wr => ∃ k : Nat, k ≤ l.length ∧ vk = .int .i64 k ∧ k = g ∧ Hid (∀ j (hj : j < l.length), k ≤ j → mrkB l[j] = true ∧ cccI r < cccI l[j]) ∧ Below w.heap.size w wr)
  case atStart => exact ⟨l.length, Nat.le_refl _, rfl, rfl, Lib.hid fun j hj h => absurd h (by omega), hb1.out⟩
  case round =>
    obtain ⟨k, hk, rfl, rfl, hmk, hbel⟩ := hrel
    by_cases hk0 : k = 0
    · subst hk0
      have hins : Can.insF l r = l.take 0 ++ r :: l.drop 0 := Can.ins_at l r 0 hk hmk.out (.inl rfl)
      replace hins := Lib.hid hins
      replace hbel := Lib.hid hbel
      cases p with
      | none =>
        obtain rfl : cap = 0 := hnil rfl
        obtain rfl : l = [] := List.eq_nil_of_length_eq_zero (by omega)
        have hown0 := Lib.hid (ownI_lit w.heap.size wr [] #[] wr.heap.size 0 rfl hbel.out.size rfl rfl (by unfold maxLen; omega))
        have hbel0 := Lib.hid (hbel.out.alloc hbel.out.size (.cells #[] 3))
        have hsrc0 := Lib.hid (ri_src (ri_take (ri_below (ri_below hv.out hbel.out) (below_new wr (.cells #[] 3))) 0 hk))
        go_upto_region 6 with (at_builtin; refine wpList_append_src rfl _ _ 24 rfl w.heap.size 3 i0 (.int .i64 0) 8 Tryz.underlying24 hi hz0 hz1 hz2 rfl _ _ _ rfl hown0.out _ _ rfl hsrc0.out (oneCellI _) (by simp only [List.length_map, List.length_append, List.length_take, List.length_drop, List.length_cons, List.length_nil, List.length_singleton]; unfold maxLen; omega) (by simp only [List.length_map, List.length_append, List.length_take, List.length_drop, List.length_cons, List.length_nil, List.length_singleton]; omega) hbel0.out.size ?_; intro v5 w5 ho5 hg5; have o5 := Lib.hid (ownI_of_row (l := ([] : List Int).take 0) ho5 (by (try simp); try omega) (by (try simp); try omega)); have b5 := Lib.hid (below_row hbel0.out hg5 hbel0.out.size hown0.out (Nat.le_refl _)); clear ho5 hg5)
        have o5' := Lib.hid (ownI_alloc o5.out (.cells #[.int .i64 r] 3))
        have b5' := Lib.hid (b5.out.alloc b5.out.size (.cells #[.int .i64 r] 3))
        have s5 := Lib.hid (ri_src (ri_of_own (ownI_lit w.heap.size w5 [r] #[.int .i64 r] w5.heap.size 1 rfl b5.out.size rfl rfl (by unfold maxLen; omega))))
        go_upto_region 7 with (at_builtin; refine wpList_append_src rfl _ _ 24 rfl w.heap.size 3 i0 (.int .i64 0) 8 Tryz.underlying24 hi hz0 hz1 hz2 rfl _ _ _ rfl o5'.out _ _ rfl s5.out (oneCellI _) (by simp only [List.length_map, List.length_append, List.length_take, List.length_drop, List.length_cons, List.length_nil, List.length_singleton]; unfold maxLen; omega) (by simp only [List.length_map, List.length_append, List.length_take, List.length_drop, List.length_cons, List.length_nil, List.length_singleton]; omega) b5'.out.size ?_; intro v6 w6 ho6 hg6; have o6 := Lib.hid (ownI_of_row (l := ([] : List Int).take 0 ++ [r]) ho6 (by (try simp); try omega) (by (try simp); try omega)); have b6 := Lib.hid (below_row b5'.out hg6 b5'.out.size o5'.out (Nat.le_refl _)); clear ho6 hg6)
        have s6 := Lib.hid (ri_src (ri_nil w6))
        go_wp2_with (at_builtin; refine wpList_append_src rfl _ _ 24 rfl w.heap.size 3 i0 (.int .i64 0) 8 Tryz.underlying24 hi hz0 hz1 hz2 rfl _ _ _ rfl o6.out _ _ rfl s6.out (oneCellI _) (by simp only [List.length_map, List.length_append, List.length_take, List.length_drop, List.length_cons, List.length_nil, List.length_singleton]; unfold maxLen; omega) (by simp only [List.length_map, List.length_append, List.length_take, List.length_drop, List.length_cons, List.length_nil, List.length_singleton]; omega) b6.out.size ?_; intro v7 w7 ho7 hg7; have o7 := Lib.hid (ownI_of_row (l := (([] : List Int).take 0 ++ [r]) ++ ([] : List Int).drop 0) ho7 (by (try simp); try omega) (by (try simp); try omega)); have b7 := Lib.hid (below_row b6.out hg7 b6.out.size o6.out (Nat.le_refl _)); clear ho7 hg7)
        go_ret
        exact ⟨_, rfl, ownI_cast o7.out (by rw [hins.out]; simp), b7.out⟩
      | some a =>
        have hown0 := Lib.hid (ownI_lit w.heap.size wr [] #[] wr.heap.size 0 rfl hbel.out.size rfl rfl (by unfold maxLen; omega))
        have hbel0 := Lib.hid (hbel.out.alloc hbel.out.size (.cells #[] 3))
        have hsrc0 := Lib.hid (ri_src (ri_take (ri_below (ri_below hv.out hbel.out) (below_new wr (.cells #[] 3))) 0 hk))
        go_upto_region 6 with (at_builtin; refine wpList_append_src rfl _ _ 24 rfl w.heap.size 3 i0 (.int .i64 0) 8 Tryz.underlying24 hi hz0 hz1 hz2 rfl _ _ _ rfl hown0.out _ _ rfl hsrc0.out (oneCellI _) (by simp only [List.length_map, List.length_append, List.length_take, List.length_drop, List.length_cons, List.length_nil, List.length_singleton]; unfold maxLen; omega) (by simp only [List.length_map, List.length_append, List.length_take, List.length_drop, List.length_cons, List.length_nil, List.length_singleton]; omega) hbel0.out.size ?_; intro v5 w5 ho5 hg5; have o5 := Lib.hid (ownI_of_row (l := (l : List Int).take 0) ho5 (by (try simp); try omega) (by (try simp); try omega)); have b5 := Lib.hid (below_row hbel0.out hg5 hbel0.out.size hown0.out (Nat.le_refl _)); clear ho5 hg5)
        have o5' := Lib.hid (ownI_alloc o5.out (.cells #[.int .i64 r] 3))
        have b5' := Lib.hid (b5.out.alloc b5.out.size (.cells #[.int .i64 r] 3))
        have s5 := Lib.hid (ri_src (ri_of_own (ownI_lit w.heap.size w5 [r] #[.int .i64 r] w5.heap.size 1 rfl b5.out.size rfl rfl (by unfold maxLen; omega))))
        go_upto_region 7 with (at_builtin; refine wpList_append_src rfl _ _ 24 rfl w.heap.size 3 i0 (.int .i64 0) 8 Tryz.underlying24 hi hz0 hz1 hz2 rfl _ _ _ rfl o5'.out _ _ rfl s5.out (oneCellI _) (by simp only [List.length_map, List.length_append, List.length_take, List.length_drop, List.length_cons, List.length_nil, List.length_singleton]; unfold maxLen; omega) (by simp only [List.length_map, List.length_append, List.length_take, List.length_drop, List.length_cons, List.length_nil, List.length_singleton]; omega) b5'.out.size ?_; intro v6 w6 ho6 hg6; have o6 := Lib.hid (ownI_of_row (l := (l : List Int).take 0 ++ [r]) ho6 (by (try simp); try omega) (by (try simp); try omega)); have b6 := Lib.hid (below_row b5'.out hg6 b5'.out.size o5'.out (Nat.le_refl _)); clear ho6 hg6)
        have s6 := Lib.hid (ri_src (ri_below hv.out b6.out))
        go_wp2_with (at_builtin; refine wpList_append_src rfl _ _ 24 rfl w.heap.size 3 i0 (.int .i64 0) 8 Tryz.underlying24 hi hz0 hz1 hz2 rfl _ _ _ rfl o6.out _ _ rfl s6.out (oneCellI _) (by simp only [List.length_map, List.length_append, List.length_take, List.length_drop, List.length_cons, List.length_nil, List.length_singleton]; unfold maxLen; omega) (by simp only [List.length_map, List.length_append, List.length_take, List.length_drop, List.length_cons, List.length_nil, List.length_singleton]; omega) b6.out.size ?_; intro v7 w7 ho7 hg7; have o7 := Lib.hid (ownI_of_row (l := ((l : List Int).take 0 ++ [r]) ++ (l : List Int).drop 0) ho7 (by (try simp); try omega) (by (try simp); try omega)); have b7 := Lib.hid (below_row b6.out hg7 b6.out.size o6.out (Nat.le_refl _)); clear ho7 hg7)
        go_ret
        exact ⟨_, rfl, ownI_cast o7.out (by rw [hins.out]; simp), b7.out⟩
    · have hk1 : 0 < (k : Int) := by omega
      have hk3 : 0 < k := by omega
      obtain ⟨b, off, rfl, hb, hcell⟩ := ri_at (ri_below hv.out hbel) (by omega)
      obtain ⟨m, hm⟩ : ∃ m, k = m + 1 := ⟨k - 1, by omega⟩
      have hml : m < l.length := by omega
      have hcl := hcell m hml
      obtain ⟨x, hx⟩ : ∃ x, l[m]'hml = x := ⟨_, rfl⟩
      rw [hx] at hcl
      have hmki : (k : Int) - 1 = (m : Int) := by omega
      have hmx := rmark_any x
      have hcx := rccc_any x
      obtain ⟨y, hy⟩ : ∃ y, cccI x = y := ⟨_, rfl⟩
      rw [hy] at hcx
      have hout : ¬ (mrkB x = true ∧ c < y) → Can.insF l r = l.take k ++ r :: l.drop k := fun hn => Can.ins_at l r k hk hmk.out (.inr ⟨by omega, by
        subst hm
        simp only [Nat.add_sub_cancel]
        rw [hx, hc.out, hy]
        exact hn⟩)
      have hstep : mrkB x = true ∧ c < y → ∀ j (hj : j < l.length), m ≤ j → mrkB l[j] = true ∧ cccI r < cccI l[j] := by
        intro hxy j hj hmj
        rcases Nat.eq_or_lt_of_le hmj with rfl | h
        · rw [hx]; exact ⟨hxy.1, by rw [hc.out, hy]; exact hxy.2⟩
        · exact hmk.out j hj (by omega)
      have hmk1 : m + 1 ≤ k := by omega
      have hmk2 : k ≤ m + 1 := by omega
      have hkc : (k : Int) ≤ (cap : Int) := by omega
      have hkl : (k : Int) ≤ (l.length : Int) := by omega
      replace hm := Lib.hid hm
      replace hcx := Lib.hid hcx
      replace hx := Lib.hid hx
      replace hy := Lib.hid hy
      clear hcell
      replace hbel := Lib.hid hbel
      cases hmb : mrkB x with
      | true =>
        rw [hmb] at hmx hout hstep
        replace hmx := Lib.hid hmx
        by_cases hcy : c < y
        · replace hstep := Lib.hid (hstep ⟨rfl, hcy⟩)
          clear hout hmb
          go_wp2_with fail
          refine (hmx.out _).mono ?_
          rintro e w2 ⟨rfl, hb2⟩
          have hcl2 : w2.cell? ⟨b, off + m, none⟩ = some (.int .i64 x) := by rw [hb2.cell hb]; exact hcl
          replace hb2 := Lib.hid (below_on hbel.out hb2)
          go_wp2_with fail
          refine (hcx.out _).mono ?_
          rintro e w3 ⟨rfl, hb3⟩
          replace hb3 := Lib.hid (below_on hb2.out hb3)
          go_wp2_with fail
          go_roundg m
          case measure => omega
          case rel => exact ⟨m, by omega, rfl, rfl, hstep, hb3.out⟩
        · have hins := Lib.hid (hout fun h => hcy h.2)
          have hcy' : decide (c < y) = false := decide_eq_false hcy
          clear hout hstep hmb hcy
          by_cases hkn : cap = k
          · obtain rfl : k = cap := hkn.symm
            go_upto_region 5 with (first | (go_at_call 83; refine (hmx.out _).mono ?_; rintro e w2 ⟨rfl, hb2⟩; have hcl2 : w2.cell? ⟨b, off + m, none⟩ = some (.int .i64 x) := (hb2.cell hb).trans hcl; replace hb2 := Lib.hid (below_on hbel.out hb2)) | (go_at_call 122; refine (hcx.out _).mono ?_; rintro e w3 ⟨rfl, hb3⟩; replace hb3 := Lib.hid (below_on hb2.out hb3)))
            have hown0 := Lib.hid (ownI_lit w.heap.size w3 [] #[] w3.heap.size 0 rfl hb3.out.size rfl rfl (by unfold maxLen; omega))
            have hbel0 := Lib.hid (hb3.out.alloc hb3.out.size (.cells #[] 3))
            have hsrc0 := Lib.hid (ri_src (ri_take (ri_below (ri_below hv.out hb3.out) (below_new w3 (.cells #[] 3))) k hk))
            go_upto_region 6 with (at_builtin; refine wpList_append_src rfl _ _ 24 rfl w.heap.size 3 i0 (.int .i64 0) 8 Tryz.underlying24 hi hz0 hz1 hz2 rfl _ _ _ rfl hown0.out _ _ rfl hsrc0.out (oneCellI _) (by simp only [List.length_map, List.length_append, List.length_take, List.length_drop, List.length_cons, List.length_nil, List.length_singleton]; unfold maxLen; omega) (by simp only [List.length_map, List.length_append, List.length_take, List.length_drop, List.length_cons, List.length_nil, List.length_singleton]; omega) hbel0.out.size ?_; intro v5 w5 ho5 hg5; have o5 := Lib.hid (ownI_of_row (l := (l : List Int).take k) ho5 (by (try simp); try omega) (by (try simp); try omega)); have b5 := Lib.hid (below_row hbel0.out hg5 hbel0.out.size hown0.out (Nat.le_refl _)); clear ho5 hg5)
            have o5' := Lib.hid (ownI_alloc o5.out (.cells #[.int .i64 r] 3))
            have b5' := Lib.hid (b5.out.alloc b5.out.size (.cells #[.int .i64 r] 3))
            have s5 := Lib.hid (ri_src (ri_of_own (ownI_lit w.heap.size w5 [r] #[.int .i64 r] w5.heap.size 1 rfl b5.out.size rfl rfl (by unfold maxLen; omega))))
            go_upto_region 7 with (at_builtin; refine wpList_append_src rfl _ _ 24 rfl w.heap.size 3 i0 (.int .i64 0) 8 Tryz.underlying24 hi hz0 hz1 hz2 rfl _ _ _ rfl o5'.out _ _ rfl s5.out (oneCellI _) (by simp only [List.length_map, List.length_append, List.length_take, List.length_drop, List.length_cons, List.length_nil, List.length_singleton]; unfold maxLen; omega) (by simp only [List.length_map, List.length_append, List.length_take, List.length_drop, List.length_cons, List.length_nil, List.length_singleton]; omega) b5'.out.size ?_; intro v6 w6 ho6 hg6; have o6 := Lib.hid (ownI_of_row (l := (l : List Int).take k ++ [r]) ho6 (by (try simp); try omega) (by (try simp); try omega)); have b6 := Lib.hid (below_row b5'.out hg6 b5'.out.size o5'.out (Nat.le_refl _)); clear ho6 hg6)
            have s6 := Lib.hid (ri_src (ri_cast (ri_none w6 (some ⟨b, off, none⟩) 0 (fun h => by cases h)) (List.drop_of_length_le (by omega)).symm))
            go_wp2_with (at_builtin; refine wpList_append_src rfl _ _ 24 rfl w.heap.size 3 i0 (.int .i64 0) 8 Tryz.underlying24 hi hz0 hz1 hz2 rfl _ _ _ rfl o6.out _ _ rfl s6.out (oneCellI _) (by simp only [List.length_map, List.length_append, List.length_take, List.length_drop, List.length_cons, List.length_nil, List.length_singleton]; unfold maxLen; omega) (by simp only [List.length_map, List.length_append, List.length_take, List.length_drop, List.length_cons, List.length_nil, List.length_singleton]; omega) b6.out.size ?_; intro v7 w7 ho7 hg7; have o7 := Lib.hid (ownI_of_row (l := ((l : List Int).take k ++ [r]) ++ (l : List Int).drop k) ho7 (by (try simp); try omega) (by (try simp); try omega)); have b7 := Lib.hid (below_row b6.out hg7 b6.out.size o6.out (Nat.le_refl _)); clear ho7 hg7)
            go_ret
            exact ⟨_, rfl, ownI_cast o7.out (by rw [hins.out]; simp), b7.out⟩
          · go_upto_region 5 with (first | (go_at_call 83; refine (hmx.out _).mono ?_; rintro e w2 ⟨rfl, hb2⟩; have hcl2 : w2.cell? ⟨b, off + m, none⟩ = some (.int .i64 x) := (hb2.cell hb).trans hcl; replace hb2 := Lib.hid (below_on hbel.out hb2)) | (go_at_call 122; refine (hcx.out _).mono ?_; rintro e w3 ⟨rfl, hb3⟩; replace hb3 := Lib.hid (below_on hb2.out hb3)))
            have hown0 := Lib.hid (ownI_lit w.heap.size w3 [] #[] w3.heap.size 0 rfl hb3.out.size rfl rfl (by unfold maxLen; omega))
            have hbel0 := Lib.hid (hb3.out.alloc hb3.out.size (.cells #[] 3))
            have hsrc0 := Lib.hid (ri_src (ri_take (ri_below (ri_below hv.out hb3.out) (below_new w3 (.cells #[] 3))) k hk))
            go_upto_region 6 with (at_builtin; refine wpList_append_src rfl _ _ 24 rfl w.heap.size 3 i0 (.int .i64 0) 8 Tryz.underlying24 hi hz0 hz1 hz2 rfl _ _ _ rfl hown0.out _ _ rfl hsrc0.out (oneCellI _) (by simp only [List.length_map, List.length_append, List.length_take, List.length_drop, List.length_cons, List.length_nil, List.length_singleton]; unfold maxLen; omega) (by simp only [List.length_map, List.length_append, List.length_take, List.length_drop, List.length_cons, List.length_nil, List.length_singleton]; omega) hbel0.out.size ?_; intro v5 w5 ho5 hg5; have o5 := Lib.hid (ownI_of_row (l := (l : List Int).take k) ho5 (by (try simp); try omega) (by (try simp); try omega)); have b5 := Lib.hid (below_row hbel0.out hg5 hbel0.out.size hown0.out (Nat.le_refl _)); clear ho5 hg5)
            have o5' := Lib.hid (ownI_alloc o5.out (.cells #[.int .i64 r] 3))
            have b5' := Lib.hid (b5.out.alloc b5.out.size (.cells #[.int .i64 r] 3))
            have s5 := Lib.hid (ri_src (ri_of_own (ownI_lit w.heap.size w5 [r] #[.int .i64 r] w5.heap.size 1 rfl b5.out.size rfl rfl (by unfold maxLen; omega))))
            go_upto_region 7 with (at_builtin; refine wpList_append_src rfl _ _ 24 rfl w.heap.size 3 i0 (.int .i64 0) 8 Tryz.underlying24 hi hz0 hz1 hz2 rfl _ _ _ rfl o5'.out _ _ rfl s5.out (oneCellI _) (by simp only [List.length_map, List.length_append, List.length_take, List.length_drop, List.length_cons, List.length_nil, List.length_singleton]; unfold maxLen; omega) (by simp only [List.length_map, List.length_append, List.length_take, List.length_drop, List.length_cons, List.length_nil, List.length_singleton]; omega) b5'.out.size ?_; intro v6 w6 ho6 hg6; have o6 := Lib.hid (ownI_of_row (l := (l : List Int).take k ++ [r]) ho6 (by (try simp); try omega) (by (try simp); try omega)); have b6 := Lib.hid (below_row b5'.out hg6 b5'.out.size o5'.out (Nat.le_refl _)); clear ho6 hg6)
            have hkn' : ¬ k = cap := fun h => hkn h.symm
            have s6 := Lib.hid (ri_src (ri_from (ri_below hv.out b6.out) k hk (by omega)))
            go_wp2_with (at_builtin; refine wpList_append_src rfl _ _ 24 rfl w.heap.size 3 i0 (.int .i64 0) 8 Tryz.underlying24 hi hz0 hz1 hz2 rfl _ _ _ rfl o6.out _ _ rfl s6.out (oneCellI _) (by simp only [List.length_map, List.length_append, List.length_take, List.length_drop, List.length_cons, List.length_nil, List.length_singleton]; unfold maxLen; omega) (by simp only [List.length_map, List.length_append, List.length_take, List.length_drop, List.length_cons, List.length_nil, List.length_singleton]; omega) b6.out.size ?_; intro v7 w7 ho7 hg7; have o7 := Lib.hid (ownI_of_row (l := ((l : List Int).take k ++ [r]) ++ (l : List Int).drop k) ho7 (by (try simp); try omega) (by (try simp); try omega)); have b7 := Lib.hid (below_row b6.out hg7 b6.out.size o6.out (Nat.le_refl _)); clear ho7 hg7)
            go_ret
            exact ⟨_, rfl, ownI_cast o7.out (by rw [hins.out]; simp), b7.out⟩
      | false =>
        rw [hmb] at hmx hout hstep
        replace hmx := Lib.hid hmx
        have hins := Lib.hid (hout fun h => by cases h.1)
        clear hout hstep hmb
        by_cases hkn : cap = k
        · obtain rfl : k = cap := hkn.symm
          go_upto_region 5 with (go_at_call 83; refine (hmx.out _).mono ?_; rintro e w3 ⟨rfl, hb3⟩; replace hb3 := Lib.hid (below_on hbel.out hb3))
          have hown0 := Lib.hid (ownI_lit w.heap.size w3 [] #[] w3.heap.size 0 rfl hb3.out.size rfl rfl (by unfold maxLen; omega))
          have hbel0 := Lib.hid (hb3.out.alloc hb3.out.size (.cells #[] 3))
          have hsrc0 := Lib.hid (ri_src (ri_take (ri_below (ri_below hv.out hb3.out) (below_new w3 (.cells #[] 3))) k hk))
          go_upto_region 6 with (at_builtin; refine wpList_append_src rfl _ _ 24 rfl w.heap.size 3 i0 (.int .i64 0) 8 Tryz.underlying24 hi hz0 hz1 hz2 rfl _ _ _ rfl hown0.out _ _ rfl hsrc0.out (oneCellI _) (by simp only [List.length_map, List.length_append, List.length_take, List.length_drop, List.length_cons, List.length_nil, List.length_singleton]; unfold maxLen; omega) (by simp only [List.length_map, List.length_append, List.length_take, List.length_drop, List.length_cons, List.length_nil, List.length_singleton]; omega) hbel0.out.size ?_; intro v5 w5 ho5 hg5; have o5 := Lib.hid (ownI_of_row (l := (l : List Int).take k) ho5 (by (try simp); try omega) (by (try simp); try omega)); have b5 := Lib.hid (below_row hbel0.out hg5 hbel0.out.size hown0.out (Nat.le_refl _)); clear ho5 hg5)
          have o5' := Lib.hid (ownI_alloc o5.out (.cells #[.int .i64 r] 3))
          have b5' := Lib.hid (b5.out.alloc b5.out.size (.cells #[.int .i64 r] 3))
          have s5 := Lib.hid (ri_src (ri_of_own (ownI_lit w.heap.size w5 [r] #[.int .i64 r] w5.heap.size 1 rfl b5.out.size rfl rfl (by unfold maxLen; omega))))
          go_upto_region 7 with (at_builtin; refine wpList_append_src rfl _ _ 24 rfl w.heap.size 3 i0 (.int .i64 0) 8 Tryz.underlying24 hi hz0 hz1 hz2 rfl _ _ _ rfl o5'.out _ _ rfl s5.out (oneCellI _) (by simp only [List.length_map, List.length_append, List.length_take, List.length_drop, List.length_cons, List.length_nil, List.length_singleton]; unfold maxLen; omega) (by simp only [List.length_map, List.length_append, List.length_take, List.length_drop, List.length_cons, List.length_nil, List.length_singleton]; omega) b5'.out.size ?_; intro v6 w6 ho6 hg6; have o6 := Lib.hid (ownI_of_row (l := (l : List Int).take k ++ [r]) ho6 (by (try simp); try omega) (by (try simp); try omega)); have b6 := Lib.hid (below_row b5'.out hg6 b5'.out.size o5'.out (Nat.le_refl _)); clear ho6 hg6)
          have s6 := Lib.hid (ri_src (ri_cast (ri_none w6 (some ⟨b, off, none⟩) 0 (fun h => by cases h)) (List.drop_of_length_le (by omega)).symm))
          go_wp2_with (at_builtin; refine wpList_append_src rfl _ _ 24 rfl w.heap.size 3 i0 (.int .i64 0) 8 Tryz.underlying24 hi hz0 hz1 hz2 rfl _ _ _ rfl o6.out _ _ rfl s6.out (oneCellI _) (by simp only [List.length_map, List.length_append, List.length_take, List.length_drop, List.length_cons, List.length_nil, List.length_singleton]; unfold maxLen; omega) (by simp only [List.length_map, List.length_append, List.length_take, List.length_drop, List.length_cons, List.length_nil, List.length_singleton]; omega) b6.out.size ?_; intro v7 w7 ho7 hg7; have o7 := Lib.hid (ownI_of_row (l := ((l : List Int).take k ++ [r]) ++ (l : List Int).drop k) ho7 (by (try simp); try omega) (by (try simp); try omega)); have b7 := Lib.hid (below_row b6.out hg7 b6.out.size o6.out (Nat.le_refl _)); clear ho7 hg7)
          go_ret
          exact ⟨_, rfl, ownI_cast o7.out (by rw [hins.out]; simp), b7.out⟩
        · go_upto_region 5 with (go_at_call 83; refine (hmx.out _).mono ?_; rintro e w3 ⟨rfl, hb3⟩; replace hb3 := Lib.hid (below_on hbel.out hb3))
          have hown0 := Lib.hid (ownI_lit w.heap.size w3 [] #[] w3.heap.size 0 rfl hb3.out.size rfl rfl (by unfold maxLen; omega))
          have hbel0 := Lib.hid (hb3.out.alloc hb3.out.size (.cells #[] 3))
          have hsrc0 := Lib.hid (ri_src (ri_take (ri_below (ri_below hv.out hb3.out) (below_new w3 (.cells #[] 3))) k hk))
          go_upto_region 6 with (at_builtin; refine wpList_append_src rfl _ _ 24 rfl w.heap.size 3 i0 (.int .i64 0) 8 Tryz.underlying24 hi hz0 hz1 hz2 rfl _ _ _ rfl hown0.out _ _ rfl hsrc0.out (oneCellI _) (by simp only [List.length_map, List.length_append, List.length_take, List.length_drop, List.length_cons, List.length_nil, List.length_singleton]; unfold maxLen; omega) (by simp only [List.length_map, List.length_append, List.length_take, List.length_drop, List.length_cons, List.length_nil, List.length_singleton]; omega) hbel0.out.size ?_; intro v5 w5 ho5 hg5; have o5 := Lib.hid (ownI_of_row (l := (l : List Int).take k) ho5 (by (try simp); try omega) (by (try simp); try omega)); have b5 := Lib.hid (below_row hbel0.out hg5 hbel0.out.size hown0.out (Nat.le_refl _)); clear ho5 hg5)
          have o5' := Lib.hid (ownI_alloc o5.out (.cells #[.int .i64 r] 3))
          have b5' := Lib.hid (b5.out.alloc b5.out.size (.cells #[.int .i64 r] 3))
          have s5 := Lib.hid (ri_src (ri_of_own (ownI_lit w.heap.size w5 [r] #[.int .i64 r] w5.heap.size 1 rfl b5.out.size rfl rfl (by unfold maxLen; omega))))
          go_upto_region 7 with (at_builtin; refine wpList_append_src rfl _ _ 24 rfl w.heap.size 3 i0 (.int .i64 0) 8 Tryz.underlying24 hi hz0 hz1 hz2 rfl _ _ _ rfl o5'.out _ _ rfl s5.out (oneCellI _) (by simp only [List.length_map, List.length_append, List.length_take, List.length_drop, List.length_cons, List.length_nil, List.length_singleton]; unfold maxLen; omega) (by simp only [List.length_map, List.length_append, List.length_take, List.length_drop, List.length_cons, List.length_nil, List.length_singleton]; omega) b5'.out.size ?_; intro v6 w6 ho6 hg6; have o6 := Lib.hid (ownI_of_row (l := (l : List Int).take k ++ [r]) ho6 (by (try simp); try omega) (by (try simp); try omega)); have b6 := Lib.hid (below_row b5'.out hg6 b5'.out.size o5'.out (Nat.le_refl _)); clear ho6 hg6)
          have hkn' : ¬ k = cap := fun h => hkn h.symm
          have s6 := Lib.hid (ri_src (ri_from (ri_below hv.out b6.out) k hk (by omega)))
          go_wp2_with (at_builtin; refine wpList_append_src rfl _ _ 24 rfl w.heap.size 3 i0 (.int .i64 0) 8 Tryz.underlying24 hi hz0 hz1 hz2 rfl _ _ _ rfl o6.out _ _ rfl s6.out (oneCellI _) (by simp only [List.length_map, List.length_append, List.length_take, List.length_drop, List.length_cons, List.length_nil, List.length_singleton]; unfold maxLen; omega) (by simp only [List.length_map, List.length_append, List.length_take, List.length_drop, List.length_cons, List.length_nil, List.length_singleton]; omega) b6.out.size ?_; intro v7 w7 ho7 hg7; have o7 := Lib.hid (ownI_of_row (l := ((l : List Int).take k ++ [r]) ++ (l : List Int).drop k) ho7 (by (try simp); try omega) (by (try simp); try omega)); have b7 := Lib.hid (below_row b6.out hg7 b6.out.size o6.out (Nat.le_refl _)); clear ho7 hg7)
          go_ret
          exact ⟨_, rfl, ownI_cast o7.out (by rw [hins.out]; simp), b7.out⟩
end Go.Proofs.YtiidjkhkcckmkaaGreatDoor

/- Layer 7: the document's Order, Sorted, Marks. -/
namespace Go.Proofs.YtiidjkhkcckmkaaGreatDoor
set_option linter.unusedSimpArgs false
set_option linter.unusedVariables false
open Go.RowKit Go.Lib
namespace Can
theorem order_snoc (l : List Int) (x : Int) : orderI (l ++ [x]) = if Prp.mrkB x = true then insF (orderI l) x else orderI l ++ [x] := by
  unfold orderI insF
  rw [orderR_app, orderR_one]
  unfold stepR
  split
  · rw [List.reverse_reverse]
  · rw [List.reverse_cons]
end Can
set_option maxHeartbeats 1600000 in
theorem rorder_any (v : Value) (l : List Int) (w : World) (hl : l.length ≤ 1000000) (hv : RI w v l) : Calls Tryz.prog 123 #[v] w (Makes (Can.orderI l) w) := by
  obtain ⟨i0, hi, hz0, hz1, hz2⟩ := info_parts info_i
  obtain ⟨p, cap, rfl⟩ := ri_form hv
  replace hv := Lib.hid hv
  go_enter Tryz.func123, Tryz.ntmps123
  go_wp2_with fail
  go_loopg [3, 4] l.length (fun g vo vi wr => ∃ k : Nat, k ≤ l.length ∧ vi = .int .i64 k ∧ g = l.length - k ∧ OwnI w.heap.size vo (Can.orderI (l.take k)) wr ∧ Below w.heap.size w wr)
  case atStart => exact ⟨0, Nat.zero_le _, rfl, rfl, ownI_nil _ _, Below.refl _ _⟩
  case round =>
    obtain ⟨k, hk, rfl, rfl, hown, hbel⟩ := hrel
    by_cases hlt : k < l.length
    · have hlt' : (k : Int) < (l.length : Int) := by omega
      obtain ⟨b, off, rfl, hb, hcell⟩ := ri_at (ri_below hv.out hbel) (by omega)
      have hc := hcell k hlt
      obtain ⟨x, hx⟩ : ∃ x, l[k] = x := ⟨_, rfl⟩
      have hsn : l.take (k + 1) = l.take k ++ [x] := by rw [List.take_succ_eq_append_getElem hlt, hx]
      rw [hx] at hc
      have hstep := Can.order_snoc (l.take k) x
      rw [← hsn] at hstep
      have hlen := Can.orderI_len (l.take k)
      rw [List.length_take] at hlen
      obtain ⟨m, hm⟩ : ∃ m, Can.orderI (l.take k) = m := ⟨_, rfl⟩
      rw [hm] at hown hstep hlen
      have hml : m.length ≤ 1000000 := by omega
      have hmx := rmark_any x
      cases hmb : Prp.mrkB x with
      | true =>
        rw [hmb] at hmx
        rw [if_pos hmb] at hstep
        replace hmx := Lib.hid hmx
        replace hstep := Lib.hid hstep
        replace hown := Lib.hid hown
        replace hbel := Lib.hid hbel
        clear hcell hsn hx hm hlen hmb
        go_wp2_with fail
        refine (hmx.out _).mono ?_
        rintro e w2 ⟨rfl, hb2⟩
        have hc2 : w2.cell? ⟨b, off + k, none⟩ = some (.int .i64 x) := (hb2.cell hb).trans hc
        have hri := ri_of_own (ownI_below hown.out hb2)
        have hins := Lib.hid (rinsert_any _ m x w2 hml hri)
        replace hb2 := Lib.hid (below_on hbel.out hb2)
        clear hri
        go_wp2_with fail
        refine hins.out.mono ?_
        rintro e w3 ⟨v3, rfl, ho3, hb3⟩
        have ho3' := Lib.hid (ownI_mono ho3 hb2.out.size)
        replace hb3 := Lib.hid (below_on hb2.out hb3)
        clear ho3
        go_wp2_with fail
        go_roundg (l.length - (k + 1))
        case measure => omega
        case rel => exact ⟨k + 1, by omega, by go_num, rfl, by rw [hstep.out]; exact ho3'.out, hb3.out⟩
      | false =>
        rw [hmb] at hmx
        rw [if_neg (by rw [hmb]; simp)] at hstep
        replace hmx := Lib.hid hmx
        replace hstep := Lib.hid hstep
        replace hown := Lib.hid hown
        replace hbel := Lib.hid hbel
        clear hcell hsn hx hm hlen hmb
        go_wp2_with fail
        refine (hmx.out _).mono ?_
        rintro e w2 ⟨rfl, hb2⟩
        have hc2 : w2.cell? ⟨b, off + k, none⟩ = some (.int .i64 x) := (hb2.cell hb).trans hc
        have o2 := Lib.hid (ownI_alloc (ownI_below hown.out hb2) (.cells #[.int .i64 x] 3))
        replace hb2 := Lib.hid (below_on hbel.out hb2)
        have b2 := Lib.hid (hb2.out.alloc hb2.out.size (.cells #[.int .i64 x] 3))
        have s2 := Lib.hid (ri_src (ri_of_own (ownI_lit w.heap.size w2 [x] #[.int .i64 x] w2.heap.size 1 rfl hb2.out.size rfl rfl (by unfold maxLen; omega))))
        go_wp2_with (at_builtin; refine wpList_append_src rfl _ _ 24 rfl w.heap.size 3 i0 (.int .i64 0) 8 Tryz.underlying24 hi hz0 hz1 hz2 rfl _ _ _ rfl o2.out _ _ rfl s2.out (oneCellI _) (by simp only [List.length_map, List.length_append, List.length_take, List.length_drop, List.length_cons, List.length_nil, List.length_singleton]; unfold maxLen; omega) (by simp only [List.length_map, List.length_append, List.length_take, List.length_drop, List.length_cons, List.length_nil, List.length_singleton]; omega) b2.out.size ?_; intro v5 w5 ho5 hg5; have o5 := Lib.hid (ownI_of_row (l := m ++ [x]) ho5 (by (try simp); try omega) (by (try simp); try omega)); have b5 := Lib.hid (below_row b2.out hg5 b2.out.size o2.out (Nat.le_refl _)); clear ho5 hg5)
        go_roundg (l.length - (k + 1))
        case measure => omega
        case rel => exact ⟨k + 1, by omega, by go_num, rfl, by rw [hstep.out]; exact o5.out, b5.out⟩
    · obtain rfl : k = l.length := by omega
      have hlt' : decide ((l.length : Int) < (l.length : Int)) = false := by simp
      rw [List.take_length] at hown
      replace hown := Lib.hid hown
      replace hbel := Lib.hid hbel
      go_wp2_with fail
      go_ret
      exact ⟨_, rfl, hown.out, hbel.out⟩
set_option maxHeartbeats 800000 in
theorem rsorted_any (v : Value) (l : List Int) (w : World) (hl : l.length ≤ 100000) (hv : RI w v l) : Calls Tryz.prog 85 #[v] w fun e w' => e = .returned (.bool (Can.sortedB l)) ∧ Below w.heap.size w w' := by
  have ho := Lib.hid (rorder_any v l w (by omega) hv)
  have hs : Can.sortedB l = sameB (Can.orderI l) l := by rw [Can.sorted_iff]; rfl
  rw [hs]
  have hlen := Can.orderI_len l
  obtain ⟨m, hm⟩ : ∃ m, Can.orderI l = m := ⟨_, rfl⟩
  rw [hm] at ho hlen ⊢
  have hml : m.length ≤ 100000 := by omega
  replace hv := Lib.hid hv
  clear hs hm hlen
  go_enter Tryz.func85, Tryz.ntmps85
  go_wp2_with fail
  refine ho.out.mono ?_
  rintro e w1 ⟨v1, rfl, ho1, hb1⟩
  have hsame := Lib.hid (same_any v1 v m l w1 hml (ri_of_own ho1) (ri_below hv.out hb1))
  replace hb1 := Lib.hid hb1
  clear ho1
  go_wp2_with fail
  refine hsame.out.mono ?_
  rintro e w2 ⟨rfl, n, rfl⟩
  have hb2 := Lib.hid (below_on hb1.out (drewN_below w1 n))
  go_wp2_with fail
  go_ret
  exact ⟨rfl, hb2.out⟩
namespace Can
end Can
end Go.Proofs.YtiidjkhkcckmkaaGreatDoor

/- Layer 7: the document's Compose. -/
namespace Go.Proofs.YtiidjkhkcckmkaaGreatDoor
set_option linter.unusedSimpArgs false
set_option linter.unusedVariables false
open Go.RowKit Go.Lib
def JoinedRes (m : List Int) (r : Int) (w : World) (e : Ending) (w' : World) : Prop :=
  (((∃ v : Int, e = .returned (.tuple #[.int .i64 v, .int .i64 (-1)])) ∧ Can.cstep m.reverse r = r :: m.reverse) ∨
    ∃ (k : Nat) (v : Int), k < m.length ∧ e = .returned (.tuple #[.int .i64 v, .int .i64 k]) ∧ Can.cstep m.reverse r = (m.set k v).reverse) ∧ Below w.heap.size w w'
set_option maxHeartbeats 3200000 in
theorem rjoined_any (v : Value) (m : List Int) (r : Int) (w : World) (hl : m.length ≤ 1000000) (hv : RI w v m) : Calls Tryz.prog 116 #[v, .int .i64 r] w (JoinedRes m r w) := by
  obtain ⟨p, cap, rfl⟩ := ri_form hv
  replace hv := Lib.hid hv
  by_cases hm0 : m = []
  · subst hm0
    go_enter Tryz.func116, Tryz.ntmps116
    go_wp2_with fail
    go_loopg [6] 0 (fun g vk wr => vk = .int .i64 (-1) ∧ g = 0 ∧ wr = w)
    case atStart => exact ⟨rfl, rfl, rfl⟩
    case round =>
      obtain ⟨rfl, rfl, rfl⟩ := hrel
      go_wp2_with fail
      go_ret2
      exact ⟨.inl ⟨⟨_, rfl⟩, Can.cstep_marks [] r fun j hj => by simp at hj⟩, Below.refl _ _⟩
  · obtain ⟨L, hL⟩ : ∃ L, m.length = L + 1 := ⟨m.length - 1, by have := List.length_pos_iff.2 hm0; omega⟩
    have hLi : (m.length : Int) - 1 = (L : Int) := by omega
    have hLm : L < m.length := by omega
    obtain ⟨b, off, rfl, hb, hcell⟩ := ri_at hv.out (by omega)
    have hcs := hcell
    replace hcell := Lib.hid hcell
    obtain ⟨z, hz⟩ : ∃ z, m[L] = z := ⟨_, rfl⟩
    have hcz := hcell.out L hLm
    rw [hz] at hcz
    replace hL := Lib.hid hL
    replace hz := Lib.hid hz
    replace hcz := Lib.hid hcz
    clear hm0 hcs
    go_enter Tryz.func116, Tryz.ntmps116
    go_wp2_with fail
    go_loopg [6] (L + 1) (fun g vk wr => ((∃ k : Nat, k < m.length ∧ vk = .int .i64 k ∧ g = k + 1 ∧ Hid (∀ j (hj : j < m.length), k < j → Prp.mrkB m[j] = true)) ∨ (vk = .int .i64 (-1) ∧ g = 0 ∧ Hid (∀ j (hj : j < m.length), Prp.mrkB m[j] = true))) ∧ Below w.heap.size w wr)
    case atStart => exact ⟨.inl ⟨L, hLm, rfl, rfl, Lib.hid fun j hj h => absurd hj (by have := hL.out; omega)⟩, Below.refl _ _⟩
    case round =>
      obtain ⟨hh, hbel⟩ := hrel
      rcases hh with ⟨k, hk, rfl, rfl, hmk⟩ | ⟨rfl, rfl, hmk⟩
      · have hc : wr.cell? ⟨b, off + k, none⟩ = some (.int .i64 m[k]) := by rw [hbel.cell hb]; exact hcell.out k hk
        have hbr : b < wr.heap.size := Nat.lt_of_lt_of_le hb hbel.size
        obtain ⟨x, hx⟩ : ∃ x, m[k] = x := ⟨_, rfl⟩
        rw [hx] at hc
        have hmx := rmark_any x
        cases hmb : Prp.mrkB x with
        | true =>
          rw [hmb] at hmx
          replace hmx := Lib.hid hmx
          replace hbel := Lib.hid hbel
          have hall : Hid (∀ j (hj : j < m.length), k ≤ j → Prp.mrkB m[j] = true) := Lib.hid fun j hj h => by
            rcases Nat.eq_or_lt_of_le h with rfl | h
            · rw [hx, hmb]
            · exact hmk.out j hj h
          clear hmk hx hmb
          go_wp2_with fail
          refine (hmx.out _).mono ?_
          rintro e w2 ⟨rfl, hb2⟩
          replace hb2 := Lib.hid (below_on hbel.out hb2)
          go_wp2_with fail
          cases k with
          | zero =>
            go_roundg 0
            case measure => omega
            case rel => exact ⟨.inr ⟨rfl, rfl, Lib.hid fun j hj => hall.out j hj (Nat.zero_le _)⟩, hb2.out⟩
          | succ k =>
            go_roundg (k + 1)
            case measure => omega
            case rel => exact ⟨.inl ⟨k, by omega, by go_num, rfl, Lib.hid fun j hj h => hall.out j hj (by omega)⟩, hb2.out⟩
        | false =>
          rw [hmb] at hmx
          replace hmx := Lib.hid hmx
          have hmkk : Prp.mrkB m[k] = false := by rw [hx, hmb]
          have hhead := Can.cstep_head m L hL.out r k hk hmkk hmk.out
          rw [hx] at hhead
          have hjr := rjoin_any x r
          replace hbel := Lib.hid hbel
          by_cases hkL : k = L
          · -- the last one is the head
            have hnb := hhead (fun h => by
              have : Prp.mrkB m[k] = true := by simp only [hkL]; exact h.1
              rw [hmkk] at this; cases this)
            subst hkL
            have hLi2 : (m.length : Int) - 1 = (k : Int) := hLi
            cases hjo : Par.joinI x r with
            | none =>
              rw [hjo] at hnb hjr
              unfold optI at hjr
              dsimp only at hjr hnb
              replace hnb := Lib.hid hnb
              replace hjr := Lib.hid hjr
              clear hhead hmk hx hmb hmkk hjo
              go_wp2_with fail
              refine (hmx.out _).mono ?_
              rintro e w2 ⟨rfl, hb2⟩
              have hc2 : w2.cell? ⟨b, off + k, none⟩ = some (.int .i64 x) := (hb2.cell hbr).trans hc
              replace hb2 := Lib.hid (below_on hbel.out hb2)
              go_wp2_with fail
              refine (hjr.out _).mono ?_
              rintro e w3 ⟨rfl, rfl⟩
              go_wp2_with fail
              go_ret2
              exact ⟨.inl ⟨⟨_, rfl⟩, hnb.out⟩, hb2.out⟩
            | some y =>
              rw [hjo] at hnb hjr
              unfold optI at hjr
              dsimp only at hjr hnb
              replace hnb := Lib.hid hnb
              replace hjr := Lib.hid hjr
              clear hhead hmk hx hmb hmkk hjo
              go_wp2_with fail
              refine (hmx.out _).mono ?_
              rintro e w2 ⟨rfl, hb2⟩
              have hc2 : w2.cell? ⟨b, off + k, none⟩ = some (.int .i64 x) := (hb2.cell hbr).trans hc
              replace hb2 := Lib.hid (below_on hbel.out hb2)
              go_wp2_with fail
              refine (hjr.out _).mono ?_
              rintro e w3 ⟨rfl, rfl⟩
              go_wp2_with fail
              go_ret2
              exact ⟨.inr ⟨k, y, hk, rfl, hnb.out⟩, hb2.out⟩
          · have hmz : Prp.mrkB z = true := by rw [← hz.out]; exact hmk.out L hLm (by have := hL.out; omega)
            have hczr : wr.cell? ⟨b, off + L, none⟩ = some (.int .i64 z) := by rw [hbel.out.cell hb]; exact hcz.out
            have hcz1 := rccc_any z
            have hcr1 := rccc_any r
            have hblk := Can.cstep_block m L hL.out r
            rw [hz.out] at hhead hblk
            obtain ⟨cz, hcz0⟩ : ∃ c, Prp.cccI z = c := ⟨_, rfl⟩
            obtain ⟨cr, hcr0⟩ : ∃ c, Prp.cccI r = c := ⟨_, rfl⟩
            rw [hcz0] at hcz1 hhead hblk
            rw [hcr0] at hcr1 hhead hblk
            rw [hmz] at hhead hblk
            have hne : ¬ (k : Int) = (L : Int) := by omega
            have hne' : ((k : Int) == (L : Int)) = false := beq_eq_false_iff_ne.2 hne
            have hne2 : ((k : Int) != (L : Int)) = true := bne_iff_ne.2 hne
            replace hcz1 := Lib.hid hcz1
            replace hcr1 := Lib.hid hcr1
            clear hmk hx hmb hmkk hmz hcz0 hcr0
            by_cases hcc : cr ≤ cz
            · have hres := Lib.hid (hblk rfl hcc)
              clear hblk hhead hjr
              go_wp2_with fail
              refine (hmx.out _).mono ?_
              rintro e w2 ⟨rfl, hb2⟩
              have hc2 : w2.cell? ⟨b, off + L, none⟩ = some (.int .i64 z) := (hb2.cell hbr).trans hczr
              replace hb2 := Lib.hid (below_on hbel.out hb2)
              go_wp2_with fail
              refine (hcz1.out _).mono ?_
              rintro e w3 ⟨rfl, hb3⟩
              replace hb3 := Lib.hid (below_on hb2.out hb3)
              go_wp2_with fail
              refine (hcr1.out _).mono ?_
              rintro e w4 ⟨rfl, hb4⟩
              replace hb4 := Lib.hid (below_on hb3.out hb4)
              go_wp2_with fail
              go_ret2
              exact ⟨.inl ⟨⟨_, rfl⟩, hres.out⟩, hb4.out⟩
            · have hnb := hhead fun h => hcc h.2
              have hcc' : decide (cr ≤ cz) = false := decide_eq_false hcc
              clear hblk hhead hcc
              cases hjo : Par.joinI x r with
              | none =>
                rw [hjo] at hnb hjr
                unfold optI at hjr
                dsimp only at hjr hnb
                replace hnb := Lib.hid hnb
                replace hjr := Lib.hid hjr
                clear hjo
                go_wp2_with fail
                refine (hmx.out _).mono ?_
                rintro e w2 ⟨rfl, hb2⟩
                have hc2 : w2.cell? ⟨b, off + L, none⟩ = some (.int .i64 z) := (hb2.cell hbr).trans hczr
                have hd2 : w2.cell? ⟨b, off + k, none⟩ = some (.int .i64 x) := (hb2.cell hbr).trans hc
                have hbr2 := Nat.lt_of_lt_of_le hbr hb2.size
                replace hb2 := Lib.hid (below_on hbel.out hb2)
                go_wp2_with fail
                refine (hcz1.out _).mono ?_
                rintro e w3 ⟨rfl, hb3⟩
                have hd3 : w3.cell? ⟨b, off + k, none⟩ = some (.int .i64 x) := (hb3.cell hbr2).trans hd2
                have hbr3 := Nat.lt_of_lt_of_le hbr2 hb3.size
                replace hb3 := Lib.hid (below_on hb2.out hb3)
                go_wp2_with fail
                refine (hcr1.out _).mono ?_
                rintro e w4 ⟨rfl, hb4⟩
                have hd4 : w4.cell? ⟨b, off + k, none⟩ = some (.int .i64 x) := (hb4.cell hbr3).trans hd3
                replace hb4 := Lib.hid (below_on hb3.out hb4)
                go_wp2_with fail
                refine (hjr.out _).mono ?_
                rintro e w5 ⟨rfl, rfl⟩
                go_wp2_with fail
                go_ret2
                exact ⟨.inl ⟨⟨_, rfl⟩, hnb.out⟩, hb4.out⟩
              | some y =>
                rw [hjo] at hnb hjr
                unfold optI at hjr
                dsimp only at hjr hnb
                replace hnb := Lib.hid hnb
                replace hjr := Lib.hid hjr
                clear hjo
                go_wp2_with fail
                refine (hmx.out _).mono ?_
                rintro e w2 ⟨rfl, hb2⟩
                have hc2 : w2.cell? ⟨b, off + L, none⟩ = some (.int .i64 z) := (hb2.cell hbr).trans hczr
                have hd2 : w2.cell? ⟨b, off + k, none⟩ = some (.int .i64 x) := (hb2.cell hbr).trans hc
                have hbr2 := Nat.lt_of_lt_of_le hbr hb2.size
                replace hb2 := Lib.hid (below_on hbel.out hb2)
                go_wp2_with fail
                refine (hcz1.out _).mono ?_
                rintro e w3 ⟨rfl, hb3⟩
                have hd3 : w3.cell? ⟨b, off + k, none⟩ = some (.int .i64 x) := (hb3.cell hbr2).trans hd2
                have hbr3 := Nat.lt_of_lt_of_le hbr2 hb3.size
                replace hb3 := Lib.hid (below_on hb2.out hb3)
                go_wp2_with fail
                refine (hcr1.out _).mono ?_
                rintro e w4 ⟨rfl, hb4⟩
                have hd4 : w4.cell? ⟨b, off + k, none⟩ = some (.int .i64 x) := (hb4.cell hbr3).trans hd3
                replace hb4 := Lib.hid (below_on hb3.out hb4)
                go_wp2_with fail
                refine (hjr.out _).mono ?_
                rintro e w5 ⟨rfl, rfl⟩
                go_wp2_with fail
                go_ret2
                exact ⟨.inr ⟨k, y, hk, rfl, hnb.out⟩, hb4.out⟩
      · have hres := Lib.hid (Can.cstep_marks m r hmk.out)
        replace hbel := Lib.hid hbel
        clear hmk
        go_wp2_with fail
        go_ret2
        exact ⟨.inl ⟨⟨_, rfl⟩, hres.out⟩, hbel.out⟩
set_option maxHeartbeats 3200000 in
theorem rcompose_any (v : Value) (l : List Int) (w : World) (hl : l.length ≤ 1000000) (hv : RI w v l) : Calls Tryz.prog 76 #[v] w (Makes (Can.composeI l) w) := by
  obtain ⟨i0, hi, hz0, hz1, hz2⟩ := info_parts info_i
  obtain ⟨p, cap, rfl⟩ := ri_form hv
  replace hv := Lib.hid hv
  go_enter Tryz.func76, Tryz.ntmps76
  go_wp2_with fail
  go_loopg [3, 4] l.length (fun g vo vi wr => ∃ k : Nat, k ≤ l.length ∧ vi = .int .i64 k ∧ g = l.length - k ∧ OwnI w.heap.size vo (Can.composeI (l.take k)) wr ∧ Below w.heap.size w wr)
  case atStart => exact ⟨0, Nat.zero_le _, rfl, rfl, ownI_nil _ _, Below.refl _ _⟩
  case round =>
    obtain ⟨k, hk, rfl, rfl, hown, hbel⟩ := hrel
    by_cases hlt : k < l.length
    · have hlt' : (k : Int) < (l.length : Int) := by omega
      obtain ⟨b, off, rfl, hb, hcell⟩ := ri_at (ri_below hv.out hbel) (by omega)
      have hc := hcell k hlt
      obtain ⟨x, hx⟩ : ∃ x, l[k] = x := ⟨_, rfl⟩
      have hsn : l.take (k + 1) = l.take k ++ [x] := by rw [List.take_succ_eq_append_getElem hlt, hx]
      rw [hx] at hc
      have hstep := Can.compose_snoc (l.take k) x
      rw [← hsn] at hstep
      have hlen := Can.compose_le (l.take k)
      rw [List.length_take] at hlen
      obtain ⟨m, hm⟩ : ∃ m, Can.composeI (l.take k) = m := ⟨_, rfl⟩
      rw [hm] at hown hstep hlen
      have hml : m.length ≤ 1000000 := by omega
      have hj := rjoined_any _ m x wr hml (ri_of_own hown)
      replace hj := Lib.hid hj
      replace hstep := Lib.hid hstep
      replace hown := Lib.hid hown
      replace hbel := Lib.hid hbel
      clear hcell hsn hx hm hlen
      go_wp2_with fail
      refine hj.out.mono ?_
      rintro e w2 ⟨hjr, hb2⟩
      have hc2 : w2.cell? ⟨b, off + k, none⟩ = some (.int .i64 x) := (hb2.cell hb).trans hc
      have o2 := Lib.hid (ownI_below hown.out hb2)
      replace hb2 := Lib.hid (below_on hbel.out hb2)
      rcases hjr with ⟨⟨v0, rfl⟩, hcs⟩ | ⟨j, y, hjm, rfl, hcs⟩
      · have hst := hstep.out
        rw [hcs, List.reverse_cons, List.reverse_reverse] at hst
        replace hst := Lib.hid hst
        clear hstep hcs
        have o3 := Lib.hid (ownI_alloc o2.out (.cells #[.int .i64 x] 3))
        have b3 := Lib.hid (hb2.out.alloc hb2.out.size (.cells #[.int .i64 x] 3))
        have s3 := Lib.hid (ri_src (ri_of_own (ownI_lit w.heap.size w2 [x] #[.int .i64 x] w2.heap.size 1 rfl hb2.out.size rfl rfl (by unfold maxLen; omega))))
        go_wp2_with (at_builtin; refine wpList_append_src rfl _ _ 24 rfl w.heap.size 3 i0 (.int .i64 0) 8 Tryz.underlying24 hi hz0 hz1 hz2 rfl _ _ _ rfl o3.out _ _ rfl s3.out (oneCellI _) (by simp only [List.length_map, List.length_append, List.length_take, List.length_drop, List.length_cons, List.length_nil, List.length_singleton]; unfold maxLen; omega) (by simp only [List.length_map, List.length_append, List.length_take, List.length_drop, List.length_cons, List.length_nil, List.length_singleton]; omega) b3.out.size ?_; intro v5 w5 ho5 hg5; have o5 := Lib.hid (ownI_of_row (l := m ++ [x]) ho5 (by (try simp); try omega) (by (try simp); try omega)); have b5 := Lib.hid (below_row b3.out hg5 b3.out.size o3.out (Nat.le_refl _)); clear ho5 hg5)
        go_roundg (l.length - (k + 1))
        case measure => omega
        case rel => exact ⟨k + 1, by omega, by go_num, rfl, by rw [hst.out]; exact o5.out, b5.out⟩
      · have hst := hstep.out
        rw [hcs, List.reverse_reverse] at hst
        replace hst := Lib.hid hst
        clear hstep hcs
        have hj0 : decide ((j : Int) < 0) = false := by simp
        have o3 := Lib.hid (ownI_lit w.heap.size w2 [] #[] w2.heap.size 0 rfl hb2.out.size rfl rfl (by unfold maxLen; omega))
        have b3 := Lib.hid (hb2.out.alloc hb2.out.size (.cells #[] 3))
        have s3 := Lib.hid (ri_src (ri_of_own (ownI_alloc o2.out (.cells #[] 3))))
        go_upto_region 9 with (at_builtin; refine wpList_append_src rfl _ _ 24 rfl w.heap.size 3 i0 (.int .i64 0) 8 Tryz.underlying24 hi hz0 hz1 hz2 rfl _ _ _ rfl o3.out _ _ rfl s3.out (oneCellI _) (by simp only [List.length_map, List.length_append, List.length_take, List.length_drop, List.length_cons, List.length_nil, List.length_singleton]; unfold maxLen; omega) (by simp only [List.length_map, List.length_append, List.length_take, List.length_drop, List.length_cons, List.length_nil, List.length_singleton]; omega) b3.out.size ?_; intro v5 w5 ho5 hg5; have o5 := Lib.hid (ownI_of_row (l := m) ho5 (by (try simp); try omega) (by (try simp); try omega)); have b5 := Lib.hid (below_row b3.out hg5 b3.out.size o3.out (Nat.le_refl _)); clear ho5 hg5)
        obtain ⟨g, cp, hvg, hB, hg, hcell5⟩ := ownI_open o5.out (by omega)
        subst hvg
        have hcj := hcell5 j hjm
        have hfr := World.ownsRow.frozenAt o5.out j
        have o6 := Lib.hid (ownI_store o5.out rfl j y)
        have b6 := Lib.hid (b5.out.setCell (p := ⟨g, j, none⟩) hB (.int .i64 y))
        clear hcell5
        go_wp2_with fail
        go_roundg (l.length - (k + 1))
        case measure => omega
        case rel => exact ⟨k + 1, by omega, by go_num, rfl, by rw [hst.out]; exact o6.out, b6.out⟩
    · obtain rfl : k = l.length := by omega
      have hlt' : decide ((l.length : Int) < (l.length : Int)) = false := by simp
      rw [List.take_length] at hown
      replace hown := Lib.hid hown
      replace hbel := Lib.hid hbel
      go_wp2_with fail
      go_ret
      exact ⟨_, rfl, hown.out, hbel.out⟩
end Go.Proofs.YtiidjkhkcckmkaaGreatDoor

