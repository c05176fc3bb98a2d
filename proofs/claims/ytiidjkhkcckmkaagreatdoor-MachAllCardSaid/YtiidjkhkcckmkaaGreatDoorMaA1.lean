/- Layer 15: the code's New, withCut, items; slices.Contains, slices.Clip. -/
import Derived.Test.YtiidjkhkcckmkaaGreatDoorMaR1
import Derived.Test.YtiidjkhkcckmkaaGreatDoorG1
import Derived.Test.YtiidjkhkcckmkaaGreatDoorShelf
import Derived.ArgAppend
import Derived.Laws.MakeOwn
namespace Go.Proofs.YtiidjkhkcckmkaaGreatDoor
set_option linter.unusedSimpArgs false
set_option linter.unusedVariables false
open Go.RowKit Go.Lib
open Mch (MS)
set_option maxHeartbeats 3200000 in
set_option maxRecDepth 100000 in
theorem new15_any (k : Int) (w : World) : Calls Tryz.prog 18 #[.int .i64 k] w fun e w' => e = .returned (.agg (bare9 (if 0 ≤ k ∧ k ≤ 4 then k else 0))) ∧ Below w.heap.size w w' := by
  have hres := blk_new w (bare9 0) 41
  have hb0 := Lib.hid (below_new w (.cells (bare9 0) 41))
  obtain ⟨W, hW⟩ : ∃ W, w.alloc (.cells (bare9 0) 41) = W := ⟨_, rfl⟩
  rw [hW] at hres hb0
  obtain ⟨c0, c1, c2, c3, c4, c5, c6, c7, c8⟩ := held9 hres
  have f0 := blk_thaw hres 0
  have f1 := blk_thaw hres 1
  have f2 := blk_thaw hres 2
  have f3 := blk_thaw hres 3
  have f4 := blk_thaw hres 4
  have f5 := blk_thaw hres 5
  have f6 := blk_thaw hres 6
  have f7 := blk_thaw hres 7
  have f8 := blk_thaw hres 8
  replace hres := Lib.hid hres
  replace hW := Lib.hid hW
  by_cases h : 0 ≤ k ∧ k ≤ 4
  · rw [if_pos h]
    obtain ⟨h1, h2⟩ := h
    have t1 : ¬ k < 0 := by omega
    have t2 : ¬ 4 < k := by omega
    go_enter Tryz.func18, Tryz.ntmps18
    go_upto_region 1 with (fail)
    rw [hW.out]
    go_wp2_with fail
    all_goals
      have n5 := blk_set9 hres.out (.int .i64 k) (.string ⟨#[]⟩) nilV nilV (.bool false) (.int .i64 0) (.bool false) (.bool false) nilV
      unfold set9 at n5
      obtain ⟨d0, d1, d2, d3, d4, d5, d6, d7, d8⟩ := held9 n5
      refine bodyPost_ret (v := .agg (bare9 k)) ?_ rfl ⟨rfl, ?_⟩
      · simp [results, Tryz.results18, go_sem, d0, d1, d2, d3, d4, d5, d6, d7, d8]
      · have := below_set9 hb0.out (Nat.le_refl w.heap.size) (.int .i64 k) (.string ⟨#[]⟩) nilV nilV (.bool false) (.int .i64 0) (.bool false) (.bool false) nilV
        unfold set9 at this
        exact this
  · rw [if_neg h]
    have t1 : k < 0 ∨ (¬ k < 0 ∧ 4 < k) := by omega
    rcases t1 with t1 | ⟨t1, t2⟩
    all_goals
      go_enter Tryz.func18, Tryz.ntmps18
      go_upto_region 1 with (fail)
      rw [hW.out]
      go_wp2_with fail
      have n5 := blk_set9 hres.out (.int .i64 0) (.string ⟨#[]⟩) nilV nilV (.bool false) (.int .i64 0) (.bool false) (.bool false) nilV
      unfold set9 at n5
      obtain ⟨d0, d1, d2, d3, d4, d5, d6, d7, d8⟩ := held9 n5
      refine bodyPost_ret (v := .agg (bare9 0)) ?_ rfl ⟨rfl, ?_⟩
      · simp [results, Tryz.results18, go_sem, d0, d1, d2, d3, d4, d5, d6, d7, d8]
      · have := below_set9 hb0.out (Nat.le_refl w.heap.size) (.int .i64 0) (.string ⟨#[]⟩) nilV nilV (.bool false) (.int .i64 0) (.bool false) (.bool false) nilV
        unfold set9 at this
        exact this
theorem newC15 : NewC15 := by
  intro k w _
  refine (new15_any k w).mono ?_
  rintro e w' ⟨rfl, hb⟩
  exact ⟨_, rfl, ⟨nilV, nilV, nilV, rfl, .inl ⟨rfl, rfl⟩, .inl ⟨rfl, rfl⟩, .inl ⟨rfl, rfl⟩⟩, hb⟩
/-- slices.Contains of whole numbers -/
theorem contains15_any (v : Value) (l : List Int) (x : Int) (w : World) (hl : l.length ≤ 100000) (hv : RI w v l) : Calls Tryz.prog 50 #[v, .int .i64 x] w fun e w' => e = .returned (.bool (l.contains x)) ∧ w' = w := by
  rcases hv with ⟨rfl, rfl⟩ | ⟨a, cap, rfl, hcap, hc⟩
  · refine (Tryz.slices_Contains_int_empty none 0 x w).mono ?_
    rintro e w' ⟨rfl, h⟩
    exact ⟨rfl, h⟩
  · by_cases h0 : l.length = 0
    · obtain rfl : l = [] := List.eq_nil_of_length_eq_zero h0
      refine (Tryz.slices_Contains_int_empty (some a) cap x w).mono ?_
      rintro e w' ⟨rfl, h⟩
      exact ⟨rfl, h⟩
    · obtain ⟨b, off, rfl, hb, hcell⟩ := hc (by omega)
      refine (Tryz.slices_Contains_int b off l.length cap l x w (Nat.le_refl _) (by omega) (fun j hj => by rw [hcell j hj]; simp [List.getD, hj])).mono ?_
      rintro e w' ⟨rfl, h⟩
      rw [List.take_length]
      exact ⟨rfl, h⟩
set_option maxHeartbeats 1600000 in
set_option maxRecDepth 100000 in
/-- slices.Clip -/
theorem clip15_any (b off n cap : Nat) (w : World) (hn : 0 < n) (hc : n ≤ cap) : Calls Tryz.prog 100 #[.slice (some ⟨b, off, none⟩) n cap] w fun e w' => e = .returned (.slice (some ⟨b, off, none⟩) n n) ∧ w = w' := by
  have h1 : (n : Int) ≤ (cap : Int) := by omega
  have h2 : ¬ ((n : Int) < 0) := by omega
  have h3 : ¬ ((cap : Int) < (n : Int)) := by omega
  have h4 : (0 : Int) ≤ (n : Int) := by omega
  have h5 : ¬ (n = 0) := by omega
  go_enter Tryz.func100, Tryz.ntmps100
  go_wp2_with fail
  go_ret
  exact ⟨rfl, rfl⟩
set_option maxHeartbeats 1600000 in
set_option maxRecDepth 100000 in
theorem withCut15_any (v : Value) (c : List Int) (w : World) (hl : c.length ≤ 1000) (hv : RI w v c) : Calls Tryz.prog 61 #[v] w (Makes (Mch.cutOf c) w) := by
  obtain ⟨i0, hi, hz0, hz1, hz2⟩ := info_parts info_i
  obtain ⟨p, cap, rfl⟩ := ri_form hv
  by_cases hc : c = []
  · subst hc
    replace hv := Lib.hid hv
    rw [show Mch.cutOf [] = [] from rfl]
    go_enter Tryz.func61, Tryz.ntmps61
    go_wp2_with fail
    go_ret
    exact ⟨_, rfl, ownI_nil _ _, Below.refl _ _⟩
  · rw [cut_app c hc]
    have hne : c.length ≠ 0 := fun e => hc (List.eq_nil_of_length_eq_zero e)
    have ht : ¬ ((c.length : Int) = 0) := by omega
    have ht2 : ((c.length : Int) == 0) = false := beq_eq_false_iff_ne.2 ht
    obtain ⟨b, off, rfl, hb, hcell⟩ := ri_at hv (by omega)
    have hclip := Lib.hid (clip15_any b off c.length cap w (by omega) (ri_cap hv).2.1)
    have hbn := Lib.hid (below_new w (.cells #[.int .i64 (-1)] 3))
    have hcs : RowKit.Hid (∀ b', some (⟨b, off, none⟩ : Addr) = some b' → ∀ (j : Nat) u, (cellsI c)[j]? = some u → (w.alloc (.cells #[.int .i64 (-1)] 3)).cell? (b'.add j) = some u) := by
      intro b' e j u hu
      obtain rfl := Option.some.inj e
      have hj : j < c.length := by
        rcases Nat.lt_or_ge j c.length with hj | hj
        · exact hj
        · rw [List.getElem?_eq_none (by simpa using hj)] at hu
          cases hu
      have hadd : (⟨b, off, none⟩ : Addr).add j = ⟨b, off + j, none⟩ := by unfold Addr.add; split <;> simp_all
      rw [hadd, (hbn.out.cell (p := ⟨b, off + j, none⟩) hb), hcell j hj]
      simpa [hj] using hu
    have hone : RowKit.Hid (∀ (j : Nat) u, ([.int .i64 (-1)] : List Value)[j]? = some u → (w.alloc (.cells #[.int .i64 (-1)] 3)).cell? ((⟨w.heap.size, 0, none⟩ : Addr).add j) = some u) := by
      intro j u hu
      match j with
      | 0 =>
        obtain rfl := Option.some.inj hu
        simp [Addr.add]
      | j + 1 => simp at hu
    have hlen := Lib.hid hl
    replace hne := Lib.hid hne
    replace hc := Lib.hid hc
    replace hv := Lib.hid hv
    clear hcell
    go_enter Tryz.func61, Tryz.ntmps61
    go_wp2_with fail
    refine hclip.out.mono ?_
    rintro e w1 ⟨rfl, rfl⟩
    go_wp2_with (at_builtin; refine wpList_append_grows _ rfl _ _ 24 rfl 3 i0 (.int .i64 0) 1 8 Tryz.underlying24 hi hz0 hz1 hz2 rfl (by decide) (some ⟨b, off, none⟩) c.length c.length (cellsI c) rfl (fun h => by cases h) (by simp) hcs.out ⟨w.heap.size, 0, none⟩ 1 1 [.int .i64 (-1)] rfl (by simp) hone.out (by intro u hu; simp at hu; subst hu; rfl) (by omega) (by unfold maxLen; omega) (by omega) ?_; intro v5 w5 ho5 hg5; have o5 := Lib.hid (ownI_mono (ownI_of_row (l := c ++ [-1]) ho5 (by simp) (by simp)) (show w.heap.size ≤ _ from hbn.out.size)); have b5 := Lib.hid (hbn.out.grown hg5 hbn.out.size (fun k hk => by cases hk)); clear ho5 hg5)
    go_ret
    exact ⟨_, rfl, o5.out, b5.out⟩
theorem make_ints15 (n : Nat) (hn : n ≤ 1000000) : ∃ X : Array Value, X.size = n ∧ ∀ W : World, (Instr.makeSlice 24 (.int .i64 (n : Int)) (.int .i64 (n : Int))).run Tryz.prog W = .ok (.slice (some ⟨W.heap.size, 0, none⟩) n n) (W.alloc (.cells X 3)) := by
  obtain ⟨i0, hi, h⟩ := Option.map_eq_some_iff.1 info_i
  simp only [Prod.mk.injEq] at h
  refine ⟨madeCells (Value.int .i64 0).cells (n * i0.size), by rw [size_madeCells, h.2.1]; omega, fun W => ?_⟩
  have hr := run_make (P := Tryz.prog) W 24 3 i0 (.int .i64 0) Tryz.underlying24 hi h.1 .i64 .i64 (n : Int) (n : Int) (by omega) (Int.le_refl _) (by rw [h.2.2]; omega) (by omega)
  rw [Int.toNat_natCast] at hr
  exact hr
def FillI (w : World) (b : Nat) (n k : Nat) (l : List Int) : Prop := ∃ cs : Array Value, Blk w b cs 3 ∧ cs.size = n ∧ ∀ j (h : j < l.length), j < k → cs[j]? = some (.int .i64 l[j])
theorem fillI_at {w : World} {b n k : Nat} {l : List Int} (h : FillI w b n k l) (hk : k < n) : (∃ u, w.cell? ⟨b, k, none⟩ = some u) ∧ w.frozen? ⟨b, k, none⟩ = false := by
  obtain ⟨cs, h1, h2, _⟩ := h
  exact ⟨⟨cs[k]'(by omega), blk_cell h1 k _ (Array.getElem?_eq_getElem (by omega))⟩, blk_thaw h1 k⟩
theorem fillI_more {w : World} {b n k : Nat} {l : List Int} (h : FillI w b n k l) (hn : n = l.length) (hk : k < l.length) : FillI (w.setCell ⟨b, k, none⟩ (.int .i64 l[k])) b n (k + 1) l := by
  obtain ⟨cs, h1, h2, h3⟩ := h
  refine ⟨_, blk_setAt15 h1 k _, by simpa using h2, fun j hj hjk => ?_⟩
  rw [Array.getElem?_setIfInBounds]
  by_cases e : k = j
  · subst e
    rw [if_pos rfl, if_pos (by omega)]
  · rw [if_neg e]
    exact h3 j hj (by omega)
theorem fillI_own {B : Nat} {w : World} {b n : Nat} {l : List Int} (h : FillI w b n n l) (hn : n = l.length) (hB : B ≤ b) (hm : n ≤ maxLen) : OwnI B (.slice (some ⟨b, 0, none⟩) n n) l w := by
  subst hn
  obtain ⟨cs, h1, h2, h3⟩ := h
  refine ⟨by simp, .inr ⟨b, l.length, cs, rfl, hB, h1, Nat.le_refl _, hm, by omega, ?_⟩⟩
  apply List.ext_getElem?
  intro j
  rcases Nat.lt_or_ge j l.length with hj | hj
  · have := h3 j hj hj
    rw [List.getElem?_take_of_lt (by omega), Array.getElem?_toList, this]
    simp [hj]
  · rw [List.getElem?_eq_none (by simp; omega), List.getElem?_eq_none (by simp; omega)]
set_option maxHeartbeats 3200000 in
set_option maxRecDepth 100000 in
theorem items15_any (v : Value) (l : List UInt8) (w : World) (hl : l.length ≤ 100000) (hv : RBytes w v l) : Calls Tryz.prog 62 #[v] w (Makes (Mch.itemsOf l) w) := by
  obtain ⟨p, cap, rfl⟩ := bytes_form hv
  obtain ⟨X, hX, hmk⟩ := make_ints15 l.length (by omega)
  obtain ⟨m, hm⟩ : ∃ m, Mch.itemsOf l = m := ⟨_, rfl⟩
  have hml : l.length = m.length := by rw [← hm]; unfold Mch.itemsOf; simp
  have hma : ∀ i (h : i < l.length) (h2 : i < m.length), ((l[i].toNat : Nat) : Int) = m[i] := fun i h h2 => by
    subst hm
    simp [Mch.itemsOf]
  rw [hm]
  replace hv := Lib.hid hv
  replace hX := Lib.hid hX
  replace hma := Lib.hid hma
  replace hml := Lib.hid hml
  clear hm
  have hbel0 := Lib.hid (below_new w (.cells X 3))
  have hfill0 := Lib.hid (show FillI (w.alloc (.cells X 3)) w.heap.size l.length 0 m from ⟨X, blk_new w _ _, hX.out, fun j h1 h2 => by omega⟩)
  go_enter Tryz.func62, Tryz.ntmps62
  go_wp2_with fail
  go_loopg [4, 5, 11] l.length (fun g v4 v5 vi wr => ∃ k : Nat, k ≤ l.length ∧ vi = .int .i64 k ∧ g = l.length - k ∧ FillI wr w.heap.size l.length k m ∧ Below w.heap.size w wr)
  case atStart => exact ⟨0, Nat.zero_le _, rfl, rfl, hfill0.out, hbel0.out⟩
  case round =>
    obtain ⟨k, hk, rfl, rfl, hfill, hbel⟩ := hrel
    clear hfill0 hbel0 hmk
    by_cases hlt : k < l.length
    · have hlt' : (k : Int) < (l.length : Int) := by omega
      obtain ⟨b, off, rfl, hb, hcell⟩ := bytes_at hv.out (by omega)
      have hc : wr.cell? ⟨b, off + k, none⟩ = some (.int .u8 l[k].toNat) := (hbel.cell hb).trans (hcell k hlt)
      have hkm : k < m.length := by have := hml.out; omega
      have he := hma.out k hlt hkm
      obtain ⟨x, hx⟩ : ∃ x, l[k] = x := ⟨_, rfl⟩
      rw [hx] at hc he
      have hx256 := x.toNat_lt
      obtain ⟨⟨u, hu⟩, hz⟩ := fillI_at hfill hlt
      have hmore := fillI_more hfill hml.out hkm
      rw [← he] at hmore
      have hb2 := Lib.hid (hbel.setCell (p := ⟨w.heap.size, k, none⟩) (Nat.le_refl _) (.int .i64 (x.toNat : Int)))
      replace hmore := Lib.hid hmore
      replace hbel := Lib.hid hbel
      replace hfill := Lib.hid hfill
      clear hcell hx he
      replace hkm := Lib.hid hkm
      go_wp2_with fail
      go_roundg (l.length - (k + 1))
      case measure => omega
      case rel => exact ⟨k + 1, by omega, by go_num, rfl, hmore.out, hb2.out⟩
    · obtain rfl : k = l.length := by omega
      have hlt' : decide ((l.length : Int) < (l.length : Int)) = false := by simp
      have hown := Lib.hid (fillI_own hfill hml.out (Nat.le_refl w.heap.size) (by unfold maxLen; omega))
      replace hbel := Lib.hid hbel
      clear hfill
      go_wp2_with fail
      go_ret
      exact ⟨_, rfl, hown.out, hbel.out⟩
end Go.Proofs.YtiidjkhkcckmkaaGreatDoor
