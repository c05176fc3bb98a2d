/- Texts that stand together. -/
import Derived.Test.YtiidjkhkcckmkaaGreatDoorMaBP
import Derived.Test.YtiidjkhkcckmkaaGreatDoorG1
import Derived.Test.YtiidjkhkcckmkaaGreatDoorShelf
import Derived.ArgAppend
import Derived.Laws.MakeOwn
import Derived.Test.YtiidjkhkcckmkaaGreatDoorDcP
import Derived.Test.YtiidjkhkcckmkaaGreatDoorNoQ
import Derived.Test.YtiidjkhkcckmkaaGreatDoorSgP
import Derived.Test.YtiidjkhkcckmkaaGreatDoorMaW0
/- Layer 15: the code's New, withCut, items; slices.Contains, slices.Clip. -/
namespace Go.Proofs.YtiidjkhkcckmkaaGreatDoor
set_option linter.unusedSimpArgs false
set_option linter.unusedVariables false
open Go.RowKit Go.Lib
open Mch (MS)
set_option maxHeartbeats 3200000 in
set_option maxRecDepth 100000 in
theorem new15_any (k : Int) (w : World) : Calls Tryz.prog 18 #[.int .i64 k] w fun e w' => e = .returned (.agg (bare9 (if 0 ≤ k ∧ k ≤ 4 then k else 0))) ∧ Below w.heap.size w w' := by
  have hres := blk_new w (bare9 0) 41
  have hb0 := Lib.hid (below_new w (.cells (bare9 0) 41))
  obtain ⟨W, hW⟩ : ∃ W, w.alloc (.cells (bare9 0) 41) = W := ⟨_, rfl⟩
  rw [hW] at hres hb0
  obtain ⟨c0, c1, c2, c3, c4, c5, c6, c7, c8⟩ := held9 hres
  have f0 := blk_thaw hres 0
  have f1 := blk_thaw hres 1
  have f2 := blk_thaw hres 2
  have f3 := blk_thaw hres 3
  have f4 := blk_thaw hres 4
  have f5 := blk_thaw hres 5
  have f6 := blk_thaw hres 6
  have f7 := blk_thaw hres 7
  have f8 := blk_thaw hres 8
  replace hres := Lib.hid hres
  replace hW := Lib.hid hW
  by_cases h : 0 ≤ k ∧ k ≤ 4
  · rw [if_pos h]
    obtain ⟨h1, h2⟩ := h
    have t1 : ¬ k < 0 := by omega
    have t2 : ¬ 4 < k := by omega
    go_enter Tryz.func18, Tryz.ntmps18
    go_upto_region 1 with (fail)
    rw [hW.out]
    go_wp2_with fail
    all_goals
      have n5 := blk_set9 hres.out (.int .i64 k) (.string ⟨#[]⟩) nilV nilV (.bool false) (.int .i64 0) (.bool false) (.bool false) nilV
      unfold set9 at n5
      obtain ⟨d0, d1, d2, d3, d4, d5, d6, d7, d8⟩ := held9 n5
      refine bodyPost_ret (v := .agg (bare9 k)) ?_ rfl ⟨rfl, ?_⟩
      · simp [results, Tryz.results18, go_sem, d0, d1, d2, d3, d4, d5, d6, d7, d8]
      · have := below_set9 hb0.out (Nat.le_refl w.heap.size) (.int .i64 k) (.string ⟨#[]⟩) nilV nilV (.bool false) (.int .i64 0) (.bool false) (.bool false) nilV
        unfold set9 at this
        exact this
  · rw [if_neg h]
    have t1 : k < 0 ∨ (¬ k < 0 ∧ 4 < k) := by omega
    rcases t1 with t1 | ⟨t1, t2⟩
    all_goals
      go_enter Tryz.func18, Tryz.ntmps18
      go_upto_region 1 with (fail)
      rw [hW.out]
      go_wp2_with fail
      have n5 := blk_set9 hres.out (.int .i64 0) (.string ⟨#[]⟩) nilV nilV (.bool false) (.int .i64 0) (.bool false) (.bool false) nilV
      unfold set9 at n5
      obtain ⟨d0, d1, d2, d3, d4, d5, d6, d7, d8⟩ := held9 n5
      refine bodyPost_ret (v := .agg (bare9 0)) ?_ rfl ⟨rfl, ?_⟩
      · simp [results, Tryz.results18, go_sem, d0, d1, d2, d3, d4, d5, d6, d7, d8]
      · have := below_set9 hb0.out (Nat.le_refl w.heap.size) (.int .i64 0) (.string ⟨#[]⟩) nilV nilV (.bool false) (.int .i64 0) (.bool false) (.bool false) nilV
        unfold set9 at this
        exact this
theorem newC15 : NewC15 := by
  intro k w _
  refine (new15_any k w).mono ?_
  rintro e w' ⟨rfl, hb⟩
  exact ⟨_, rfl, ⟨nilV, nilV, nilV, rfl, .inl ⟨rfl, rfl⟩, .inl ⟨rfl, rfl⟩, .inl ⟨rfl, rfl⟩⟩, hb⟩
theorem contains15_any (v : Value) (l : List Int) (x : Int) (w : World) (hl : l.length ≤ 100000) (hv : RI w v l) : Calls Tryz.prog 50 #[v, .int .i64 x] w fun e w' => e = .returned (.bool (l.contains x)) ∧ w' = w := by
  rcases hv with ⟨rfl, rfl⟩ | ⟨a, cap, rfl, hcap, hc⟩
  · refine (Tryz.slices_Contains_int_empty none 0 x w).mono ?_
    rintro e w' ⟨rfl, h⟩
    exact ⟨rfl, h⟩
  · by_cases h0 : l.length = 0
    · obtain rfl : l = [] := List.eq_nil_of_length_eq_zero h0
      refine (Tryz.slices_Contains_int_empty (some a) cap x w).mono ?_
      rintro e w' ⟨rfl, h⟩
      exact ⟨rfl, h⟩
    · obtain ⟨b, off, rfl, hb, hcell⟩ := hc (by omega)
      refine (Tryz.slices_Contains_int b off l.length cap l x w (Nat.le_refl _) (by omega) (fun j hj => by rw [hcell j hj]; simp [List.getD, hj])).mono ?_
      rintro e w' ⟨rfl, h⟩
      rw [List.take_length]
      exact ⟨rfl, h⟩
set_option maxHeartbeats 1600000 in
set_option maxRecDepth 100000 in
theorem clip15_any (b off n cap : Nat) (w : World) (hn : 0 < n) (hc : n ≤ cap) : Calls Tryz.prog 100 #[.slice (some ⟨b, off, none⟩) n cap] w fun e w' => e = .returned (.slice (some ⟨b, off, none⟩) n n) ∧ w = w' := by
  have h1 : (n : Int) ≤ (cap : Int) := by omega
  have h2 : ¬ ((n : Int) < 0) := by omega
  have h3 : ¬ ((cap : Int) < (n : Int)) := by omega
  have h4 : (0 : Int) ≤ (n : Int) := by omega
  have h5 : ¬ (n = 0) := by omega
  go_enter Tryz.func100, Tryz.ntmps100
  go_wp2_with fail
  go_ret
  exact ⟨rfl, rfl⟩
set_option maxHeartbeats 1600000 in
set_option maxRecDepth 100000 in
theorem withCut15_any (v : Value) (c : List Int) (w : World) (hl : c.length ≤ 1000) (hv : RI w v c) : Calls Tryz.prog 61 #[v] w (Makes (Mch.cutOf c) w) := by
  obtain ⟨i0, hi, hz0, hz1, hz2⟩ := info_parts info_i
  obtain ⟨p, cap, rfl⟩ := ri_form hv
  by_cases hc : c = []
  · subst hc
    replace hv := Lib.hid hv
    rw [show Mch.cutOf [] = [] from rfl]
    go_enter Tryz.func61, Tryz.ntmps61
    go_wp2_with fail
    go_ret
    exact ⟨_, rfl, ownI_nil _ _, Below.refl _ _⟩
  · rw [cut_app c hc]
    have hne : c.length ≠ 0 := fun e => hc (List.eq_nil_of_length_eq_zero e)
    have ht : ¬ ((c.length : Int) = 0) := by omega
    have ht2 : ((c.length : Int) == 0) = false := beq_eq_false_iff_ne.2 ht
    obtain ⟨b, off, rfl, hb, hcell⟩ := ri_at hv (by omega)
    have hclip := Lib.hid (clip15_any b off c.length cap w (by omega) (ri_cap hv).2.1)
    have hbn := Lib.hid (below_new w (.cells #[.int .i64 (-1)] 3))
    have hcs : RowKit.Hid (∀ b', some (⟨b, off, none⟩ : Addr) = some b' → ∀ (j : Nat) u, (cellsI c)[j]? = some u → (w.alloc (.cells #[.int .i64 (-1)] 3)).cell? (b'.add j) = some u) := by
      intro b' e j u hu
      obtain rfl := Option.some.inj e
      have hj : j < c.length := by
        rcases Nat.lt_or_ge j c.length with hj | hj
        · exact hj
        · rw [List.getElem?_eq_none (by simpa using hj)] at hu
          cases hu
      have hadd : (⟨b, off, none⟩ : Addr).add j = ⟨b, off + j, none⟩ := by unfold Addr.add; split <;> simp_all
      rw [hadd, (hbn.out.cell (p := ⟨b, off + j, none⟩) hb), hcell j hj]
      simpa [hj] using hu
    have hone : RowKit.Hid (∀ (j : Nat) u, ([.int .i64 (-1)] : List Value)[j]? = some u → (w.alloc (.cells #[.int .i64 (-1)] 3)).cell? ((⟨w.heap.size, 0, none⟩ : Addr).add j) = some u) := by
      intro j u hu
      match j with
      | 0 =>
        obtain rfl := Option.some.inj hu
        simp [Addr.add]
      | j + 1 => simp at hu
    have hlen := Lib.hid hl
    replace hne := Lib.hid hne
    replace hc := Lib.hid hc
    replace hv := Lib.hid hv
    clear hcell
    go_enter Tryz.func61, Tryz.ntmps61
    go_wp2_with fail
    refine hclip.out.mono ?_
    rintro e w1 ⟨rfl, rfl⟩
    go_wp2_with (at_builtin; refine wpList_append_grows _ rfl _ _ 24 rfl 3 i0 (.int .i64 0) 1 8 Tryz.underlying24 hi hz0 hz1 hz2 rfl (by decide) (some ⟨b, off, none⟩) c.length c.length (cellsI c) rfl (fun h => by cases h) (by simp) hcs.out ⟨w.heap.size, 0, none⟩ 1 1 [.int .i64 (-1)] rfl (by simp) hone.out (by intro u hu; simp at hu; subst hu; rfl) (by omega) (by unfold maxLen; omega) (by omega) ?_; intro v5 w5 ho5 hg5; have o5 := Lib.hid (ownI_mono (ownI_of_row (l := c ++ [-1]) ho5 (by simp) (by simp)) (show w.heap.size ≤ _ from hbn.out.size)); have b5 := Lib.hid (hbn.out.grown hg5 hbn.out.size (fun k hk => by cases hk)); clear ho5 hg5)
    go_ret
    exact ⟨_, rfl, o5.out, b5.out⟩
theorem make_ints15 (n : Nat) (hn : n ≤ 1000000) : ∃ X : Array Value, X.size = n ∧ ∀ W : World, (Instr.makeSlice 24 (.int .i64 (n : Int)) (.int .i64 (n : Int))).run Tryz.prog W = .ok (.slice (some ⟨W.heap.size, 0, none⟩) n n) (W.alloc (.cells X 3)) := by
  obtain ⟨i0, hi, h⟩ := Option.map_eq_some_iff.1 info_i
  simp only [Prod.mk.injEq] at h
  refine ⟨madeCells (Value.int .i64 0).cells (n * i0.size), by rw [size_madeCells, h.2.1]; omega, fun W => ?_⟩
  have hr := run_make (P := Tryz.prog) W 24 3 i0 (.int .i64 0) Tryz.underlying24 hi h.1 .i64 .i64 (n : Int) (n : Int) (by omega) (Int.le_refl _) (by rw [h.2.2]; omega) (by omega)
  rw [Int.toNat_natCast] at hr
  exact hr
def FillI (w : World) (b : Nat) (n k : Nat) (l : List Int) : Prop := ∃ cs : Array Value, Blk w b cs 3 ∧ cs.size = n ∧ ∀ j (h : j < l.length), j < k → cs[j]? = some (.int .i64 l[j])
theorem fillI_at {w : World} {b n k : Nat} {l : List Int} (h : FillI w b n k l) (hk : k < n) : (∃ u, w.cell? ⟨b, k, none⟩ = some u) ∧ w.frozen? ⟨b, k, none⟩ = false := by
  obtain ⟨cs, h1, h2, _⟩ := h
  exact ⟨⟨cs[k]'(by omega), blk_cell h1 k _ (Array.getElem?_eq_getElem (by omega))⟩, blk_thaw h1 k⟩
theorem fillI_more {w : World} {b n k : Nat} {l : List Int} (h : FillI w b n k l) (hn : n = l.length) (hk : k < l.length) : FillI (w.setCell ⟨b, k, none⟩ (.int .i64 l[k])) b n (k + 1) l := by
  obtain ⟨cs, h1, h2, h3⟩ := h
  refine ⟨_, blk_setAt15 h1 k _, by simpa using h2, fun j hj hjk => ?_⟩
  rw [Array.getElem?_setIfInBounds]
  by_cases e : k = j
  · subst e
    rw [if_pos rfl, if_pos (by omega)]
  · rw [if_neg e]
    exact h3 j hj (by omega)
theorem fillI_own {B : Nat} {w : World} {b n : Nat} {l : List Int} (h : FillI w b n n l) (hn : n = l.length) (hB : B ≤ b) (hm : n ≤ maxLen) : OwnI B (.slice (some ⟨b, 0, none⟩) n n) l w := by
  subst hn
  obtain ⟨cs, h1, h2, h3⟩ := h
  refine ⟨by simp, .inr ⟨b, l.length, cs, rfl, hB, h1, Nat.le_refl _, hm, by omega, ?_⟩⟩
  apply List.ext_getElem?
  intro j
  rcases Nat.lt_or_ge j l.length with hj | hj
  · have := h3 j hj hj
    rw [List.getElem?_take_of_lt (by omega), Array.getElem?_toList, this]
    simp [hj]
  · rw [List.getElem?_eq_none (by simp; omega), List.getElem?_eq_none (by simp; omega)]
set_option maxHeartbeats 3200000 in
set_option maxRecDepth 100000 in
theorem items15_any (v : Value) (l : List UInt8) (w : World) (hl : l.length ≤ 100000) (hv : RBytes w v l) : Calls Tryz.prog 62 #[v] w (Makes (Mch.itemsOf l) w) := by
  obtain ⟨p, cap, rfl⟩ := bytes_form hv
  obtain ⟨X, hX, hmk⟩ := make_ints15 l.length (by omega)
  obtain ⟨m, hm⟩ : ∃ m, Mch.itemsOf l = m := ⟨_, rfl⟩
  have hml : l.length = m.length := by rw [← hm]; unfold Mch.itemsOf; simp
  have hma : ∀ i (h : i < l.length) (h2 : i < m.length), ((l[i].toNat : Nat) : Int) = m[i] := fun i h h2 => by
    subst hm
    simp [Mch.itemsOf]
  rw [hm]
  replace hv := Lib.hid hv
  replace hX := Lib.hid hX
  replace hma := Lib.hid hma
  replace hml := Lib.hid hml
  clear hm
  have hbel0 := Lib.hid (below_new w (.cells X 3))
  have hfill0 := Lib.hid (show FillI (w.alloc (.cells X 3)) w.heap.size l.length 0 m from ⟨X, blk_new w _ _, hX.out, fun j h1 h2 => by omega⟩)
  go_enter Tryz.func62, Tryz.ntmps62
  go_wp2_with fail
  go_loopg [4, 5, 11] l.length (fun g v4 v5 vi wr => ∃ k : Nat, k ≤ l.length ∧ vi = .int .i64 k ∧ g = l.length - k ∧ FillI wr w.heap.size l.length k m ∧ Below w.heap.size w wr)
  case atStart => exact ⟨0, Nat.zero_le _, rfl, rfl, hfill0.out, hbel0.out⟩
  case round =>
    obtain ⟨k, hk, rfl, rfl, hfill, hbel⟩ := hrel
    clear hfill0 hbel0 hmk
    by_cases hlt : k < l.length
    · have hlt' : (k : Int) < (l.length : Int) := by omega
      obtain ⟨b, off, rfl, hb, hcell⟩ := bytes_at hv.out (by omega)
      have hc : wr.cell? ⟨b, off + k, none⟩ = some (.int .u8 l[k].toNat) := (hbel.cell hb).trans (hcell k hlt)
      have hkm : k < m.length := by have := hml.out; omega
      have he := hma.out k hlt hkm
      obtain ⟨x, hx⟩ : ∃ x, l[k] = x := ⟨_, rfl⟩
      rw [hx] at hc he
      have hx256 := x.toNat_lt
      obtain ⟨⟨u, hu⟩, hz⟩ := fillI_at hfill hlt
      have hmore := fillI_more hfill hml.out hkm
      rw [← he] at hmore
      have hb2 := Lib.hid (hbel.setCell (p := ⟨w.heap.size, k, none⟩) (Nat.le_refl _) (.int .i64 (x.toNat : Int)))
      replace hmore := Lib.hid hmore
      replace hbel := Lib.hid hbel
      replace hfill := Lib.hid hfill
      clear hcell hx he
      replace hkm := Lib.hid hkm
      go_wp2_with fail
      go_roundg (l.length - (k + 1))
      case measure => omega
      case rel => exact ⟨k + 1, by omega, by go_num, rfl, hmore.out, hb2.out⟩
    · obtain rfl : k = l.length := by omega
      have hlt' : decide ((l.length : Int) < (l.length : Int)) = false := by simp
      have hown := Lib.hid (fillI_own hfill hml.out (Nat.le_refl w.heap.size) (by unfold maxLen; omega))
      replace hbel := Lib.hid hbel
      clear hfill
      go_wp2_with fail
      go_ret
      exact ⟨_, rfl, hown.out, hbel.out⟩
end Go.Proofs.YtiidjkhkcckmkaaGreatDoor

/- Layer 15: the code's Sane. -/
namespace Go.Proofs.YtiidjkhkcckmkaaGreatDoor
set_option linter.unusedSimpArgs false
set_option linter.unusedVariables false
open Go.RowKit Go.Lib
open Mch (MS)
theorem seg_off15 {s : Clu.CS} (h : Sgm.saneB [] s = true) : s.on = false := by
  unfold Sgm.saneB at h
  simp at h
  rcases h with ⟨h1, h2⟩
  simpa using h2
theorem all_contains15 (c : List Int) : (c.all fun x => decide (x ≠ -1)) = !(c.contains (-1)) := by
  induction c with
  | nil => rfl
  | cons x t ih =>
    rw [List.all_cons, List.contains_cons, ih]
    by_cases h : x = -1
    · subst h
      simp
    · have h2 : ((-1 : Int) == x) = false := beq_eq_false_iff_ne.2 (fun e => h e.symm)
      simp [h, h2]
set_option maxHeartbeats 12800000 in
set_option maxRecDepth 100000 in
theorem sane15_k0 (v : Value) (m : MS) (w : World) (hk : m.kind = 0) (hT : Tabs w) (hs : Mch.Small m) (hv : RM w v m) : Calls Tryz.prog 20 #[v] w fun e w' => e = .returned (.bool (Mch.saneM m)) ∧ Below w.heap.size w w' := by
  have hv0 := hv
  obtain ⟨vn, vg, vc, rfl, hvn, hvg, hvc⟩ := hv
  obtain ⟨pn, cn, rfl⟩ := ri_form hvn
  obtain ⟨pg, cg, rfl⟩ := ri_form hvg
  obtain ⟨pc, cc, rfl⟩ := ri_form hvc
  obtain ⟨hsd, hsn, hsg, hsc⟩ := hs
  obtain ⟨kind, d, n, g, ⟨on, kd, pi, od⟩, c⟩ := m
  unfold mchV strV
  dsimp only at hvn hvg hvc hsd hsn hsg hsc hk ⊢
  obtain rfl := hk
  have hA := fun W' hT' => Tx.sane_any ⟨d.toArray⟩ W' hT'
  rw [Dec.saneB_eq] at hA
  obtain ⟨S, hS⟩ : ∃ S : ByteArray, (⟨d.toArray⟩ : ByteArray) = S := ⟨_, rfl⟩
  have hSe : d = [] → S = ⟨#[]⟩ := by rintro rfl; exact hS.symm
  have hSn : ¬ d = [] → ¬ S.size = 0 := fun h e => h (by rw [← hS] at e; exact List.length_eq_zero_iff.1 (by simpa [ByteArray.size] using e))
  rw [hS] at hA ⊢
  have hb := below_new w (.cells #[.int .i64 0, .string S, .slice pn n.length cn, .slice pg g.length cg, .bool on, .int .i64 kd, .bool pi, .bool od, .slice pc c.length cc] 41)
  have hx := Lib.hid (blk_new w #[.int .i64 0, .string S, .slice pn n.length cn, .slice pg g.length cg, .bool on, .int .i64 kd, .bool pi, .bool od, .slice pc c.length cc] 41)
  obtain ⟨W, hW⟩ : ∃ W, w.alloc (.cells #[.int .i64 0, .string S, .slice pn n.length cn, .slice pg g.length cg, .bool on, .int .i64 kd, .bool pi, .bool od, .slice pc c.length cc] 41) = W := ⟨_, rfl⟩
  rw [hW] at hb hx
  have hvnW := Lib.hid (ri_below hvn hb)
  have hvgW := Lib.hid (ri_below hvg hb)
  have hvcW := Lib.hid (ri_below hvc hb)
  have hTW := Lib.hid (tabs_below15 hT hb)
  have hBn := fun W' (h : RI W' (.slice pn n.length cn) n) => saneC9 _ n W' (by omega) h
  have hCg := fun W' (h : RI W' (.slice pg g.length cg) g) => sane12_any _ g ⟨on, kd, pi, od⟩ W' (by omega) h
  have hCt := fun W' (h : RI W' (.slice pc c.length cc) c) => contains15_any _ c (-1) W' (by omega) h
  unfold sgV at hCg
  dsimp only at hCg
  obtain ⟨R, hR⟩ : ∃ R, Mch.saneM ⟨0, d, n, g, ⟨on, kd, pi, od⟩, c⟩ = R := ⟨_, rfl⟩
  rw [hR]
  unfold Mch.saneM at hR
  dsimp only at hR
  rw [all_contains15] at hR
  obtain ⟨A, hAe⟩ : ∃ A, Dec.saneL d = A := ⟨_, rfl⟩
  obtain ⟨Bn, hBe⟩ : ∃ Bn, Nor.saneB n = Bn := ⟨_, rfl⟩
  obtain ⟨Cg, hCe⟩ : ∃ Cg, Sgm.saneB g ⟨on, kd, pi, od⟩ = Cg := ⟨_, rfl⟩
  obtain ⟨Ct, hCte⟩ : ∃ Ct, c.contains (-1) = Ct := ⟨_, rfl⟩
  have hon : Cg = true → g = [] → on = false := by rintro rfl rfl; exact seg_off15 hCe
  rw [hAe] at hA hR
  rw [hBe] at hBn hR
  rw [hCe] at hCg hR
  rw [hCte] at hCt hR
  have hCt0 : c = [] → Ct = false := by rintro rfl; rw [← hCte]; rfl
  replace hA := Lib.hid hA
  replace hBn := Lib.hid hBn
  replace hCg := Lib.hid hCg
  replace hCt := Lib.hid hCt
  replace hR := Lib.hid hR
  replace hb := Lib.hid hb
  replace hW := Lib.hid hW
  replace hon := Lib.hid hon
  replace hSe := Lib.hid hSe
  replace hSn := Lib.hid hSn
  replace hCt0 := Lib.hid hCt0
  clear hvn hvg hvc hAe hBe hCe hCte hS hT hv0
  go_enter Tryz.func20, Tryz.ntmps20
  go_upto_region 1 with (fail)
  rw [hW.out]
  obtain ⟨c0, c1, c2, c3, c4, c5, c6, c7, c8⟩ := held9 hx.out
  go_upto_region 2 with (fail)
  refine wp_region_lit ?_
  simp only [List.append]
  go_wp2_with fail
  refine (hA.out _ hTW.out).mono ?_
  rintro e w1 ⟨rfl, q1⟩
  have x1 := Lib.hid (blk_below hx.out q1)
  have b1 := Lib.hid (below_on hb.out q1)
  have n1 := Lib.hid (ri_below hvnW.out q1)
  have g1 := Lib.hid (ri_below hvgW.out q1)
  have v1 := Lib.hid (ri_below hvcW.out q1)
  clear c0 c1 c2 c3 c4 c5 c6 c7 c8 q1
  obtain ⟨c0, c1, c2, c3, c4, c5, c6, c7, c8⟩ := held9 x1.out
  rcases A with _ | _
  · skip
    go_wp2_with fail
    go_ret
    exact ⟨ret_bool (by rw [← hR.out]; simp), b1.out⟩
  · skip
    go_wp2_with fail
    refine (hBn.out _ n1.out).mono ?_
    rintro e w2 ⟨rfl, q2⟩
    have x2 := Lib.hid (blk_below x1.out q2)
    have b2 := Lib.hid (below_on b1.out q2)
    have g2 := Lib.hid (ri_below g1.out q2)
    have v2 := Lib.hid (ri_below v1.out q2)
    clear c0 c1 c2 c3 c4 c5 c6 c7 c8 q2
    obtain ⟨c0, c1, c2, c3, c4, c5, c6, c7, c8⟩ := held9 x2.out
    rcases Bn with _ | _
    · skip
      go_wp2_with fail
      go_ret
      exact ⟨ret_bool (by rw [← hR.out]; simp), b2.out⟩
    · skip
      by_cases hn : n = []
      · skip
        subst hn
        go_wp2_with fail
        refine (hCg.out _ g2.out).mono ?_
        rintro e w3 ⟨rfl, q3⟩
        have x3 := Lib.hid (blk_below x2.out q3)
        have b3 := Lib.hid (below_on b2.out q3)
        have v3 := Lib.hid (ri_below v2.out q3)
        clear c0 c1 c2 c3 c4 c5 c6 c7 c8 q3
        obtain ⟨c0, c1, c2, c3, c4, c5, c6, c7, c8⟩ := held9 x3.out
        rcases Cg with _ | _
        · skip
          go_wp2_with fail
          go_ret
          exact ⟨ret_bool (by rw [← hR.out]; simp), b3.out⟩
        · skip
          by_cases hg : g = []
          · skip
            obtain rfl := hon.out rfl hg
            subst hg
            by_cases h32 : c.length ≤ 32
            · skip
              have t32 : (c.length : Int) ≤ 32 := by omega
              by_cases hc : c = []
              · skip
                subst hc
                go_wp2_with fail
                refine (hCt.out _ v3.out).mono ?_
                rintro e w4 ⟨rfl, rfl⟩
                go_wp2_with fail
                go_ret
                exact ⟨ret_bool (by rw [← hR.out]; simp), b3.out⟩
              · skip
                have tc : ¬ ((c.length : Int) = 0) := fun e => hc (List.eq_nil_of_length_eq_zero (by omega))
                have uc : ((c.length : Int) == 0) = false := beq_eq_false_iff_ne.2 tc
                clear tc
                go_wp2_with fail
                go_ret
                exact ⟨ret_bool (by rw [← hR.out]; simp [hc]), b3.out⟩
            · skip
              have t32 : ¬ (c.length : Int) ≤ 32 := by omega
              go_wp2_with fail
              go_ret
              exact ⟨ret_bool (by rw [← hR.out]; simp [h32]), b3.out⟩
          · skip
            have tg : ¬ ((g.length : Int) = 0) := fun e => hg (List.eq_nil_of_length_eq_zero (by omega))
            have ug : ((g.length : Int) == 0) = false := beq_eq_false_iff_ne.2 tg
            clear tg
            go_wp2_with fail
            go_ret
            exact ⟨ret_bool (by rw [← hR.out]; simp [hg]), b3.out⟩
      · skip
        have tn : ¬ ((n.length : Int) = 0) := fun e => hn (List.eq_nil_of_length_eq_zero (by omega))
        have un : ((n.length : Int) == 0) = false := beq_eq_false_iff_ne.2 tn
        clear tn
        go_wp2_with fail
        go_ret
        exact ⟨ret_bool (by rw [← hR.out]; simp [hn]), b2.out⟩
set_option maxHeartbeats 12800000 in
set_option maxRecDepth 100000 in
theorem sane15_k1 (v : Value) (m : MS) (w : World) (hk : m.kind = 1) (hT : Tabs w) (hs : Mch.Small m) (hv : RM w v m) : Calls Tryz.prog 20 #[v] w fun e w' => e = .returned (.bool (Mch.saneM m)) ∧ Below w.heap.size w w' := by
  have hv0 := hv
  obtain ⟨vn, vg, vc, rfl, hvn, hvg, hvc⟩ := hv
  obtain ⟨pn, cn, rfl⟩ := ri_form hvn
  obtain ⟨pg, cg, rfl⟩ := ri_form hvg
  obtain ⟨pc, cc, rfl⟩ := ri_form hvc
  obtain ⟨hsd, hsn, hsg, hsc⟩ := hs
  obtain ⟨kind, d, n, g, ⟨on, kd, pi, od⟩, c⟩ := m
  unfold mchV strV
  dsimp only at hvn hvg hvc hsd hsn hsg hsc hk ⊢
  obtain rfl := hk
  have hA := fun W' hT' => Tx.sane_any ⟨d.toArray⟩ W' hT'
  rw [Dec.saneB_eq] at hA
  obtain ⟨S, hS⟩ : ∃ S : ByteArray, (⟨d.toArray⟩ : ByteArray) = S := ⟨_, rfl⟩
  have hSe : d = [] → S = ⟨#[]⟩ := by rintro rfl; exact hS.symm
  have hSn : ¬ d = [] → ¬ S.size = 0 := fun h e => h (by rw [← hS] at e; exact List.length_eq_zero_iff.1 (by simpa [ByteArray.size] using e))
  rw [hS] at hA ⊢
  have hb := below_new w (.cells #[.int .i64 1, .string S, .slice pn n.length cn, .slice pg g.length cg, .bool on, .int .i64 kd, .bool pi, .bool od, .slice pc c.length cc] 41)
  have hx := Lib.hid (blk_new w #[.int .i64 1, .string S, .slice pn n.length cn, .slice pg g.length cg, .bool on, .int .i64 kd, .bool pi, .bool od, .slice pc c.length cc] 41)
  obtain ⟨W, hW⟩ : ∃ W, w.alloc (.cells #[.int .i64 1, .string S, .slice pn n.length cn, .slice pg g.length cg, .bool on, .int .i64 kd, .bool pi, .bool od, .slice pc c.length cc] 41) = W := ⟨_, rfl⟩
  rw [hW] at hb hx
  have hvnW := Lib.hid (ri_below hvn hb)
  have hvgW := Lib.hid (ri_below hvg hb)
  have hvcW := Lib.hid (ri_below hvc hb)
  have hTW := Lib.hid (tabs_below15 hT hb)
  have hBn := fun W' (h : RI W' (.slice pn n.length cn) n) => saneC9 _ n W' (by omega) h
  have hCg := fun W' (h : RI W' (.slice pg g.length cg) g) => sane12_any _ g ⟨on, kd, pi, od⟩ W' (by omega) h
  have hCt := fun W' (h : RI W' (.slice pc c.length cc) c) => contains15_any _ c (-1) W' (by omega) h
  unfold sgV at hCg
  dsimp only at hCg
  obtain ⟨R, hR⟩ : ∃ R, Mch.saneM ⟨1, d, n, g, ⟨on, kd, pi, od⟩, c⟩ = R := ⟨_, rfl⟩
  rw [hR]
  unfold Mch.saneM at hR
  dsimp only at hR
  rw [all_contains15] at hR
  obtain ⟨A, hAe⟩ : ∃ A, Dec.saneL d = A := ⟨_, rfl⟩
  obtain ⟨Bn, hBe⟩ : ∃ Bn, Nor.saneB n = Bn := ⟨_, rfl⟩
  obtain ⟨Cg, hCe⟩ : ∃ Cg, Sgm.saneB g ⟨on, kd, pi, od⟩ = Cg := ⟨_, rfl⟩
  obtain ⟨Ct, hCte⟩ : ∃ Ct, c.contains (-1) = Ct := ⟨_, rfl⟩
  have hon : Cg = true → g = [] → on = false := by rintro rfl rfl; exact seg_off15 hCe
  rw [hAe] at hA hR
  rw [hBe] at hBn hR
  rw [hCe] at hCg hR
  rw [hCte] at hCt hR
  have hCt0 : c = [] → Ct = false := by rintro rfl; rw [← hCte]; rfl
  replace hA := Lib.hid hA
  replace hBn := Lib.hid hBn
  replace hCg := Lib.hid hCg
  replace hCt := Lib.hid hCt
  replace hR := Lib.hid hR
  replace hb := Lib.hid hb
  replace hW := Lib.hid hW
  replace hon := Lib.hid hon
  replace hSe := Lib.hid hSe
  replace hSn := Lib.hid hSn
  replace hCt0 := Lib.hid hCt0
  clear hvn hvg hvc hAe hBe hCe hCte hS hT hv0
  go_enter Tryz.func20, Tryz.ntmps20
  go_upto_region 1 with (fail)
  rw [hW.out]
  obtain ⟨c0, c1, c2, c3, c4, c5, c6, c7, c8⟩ := held9 hx.out
  go_upto_region 2 with (fail)
  refine wp_region_lit ?_
  simp only [List.append]
  go_wp2_with fail
  refine (hA.out _ hTW.out).mono ?_
  rintro e w1 ⟨rfl, q1⟩
  have x1 := Lib.hid (blk_below hx.out q1)
  have b1 := Lib.hid (below_on hb.out q1)
  have n1 := Lib.hid (ri_below hvnW.out q1)
  have g1 := Lib.hid (ri_below hvgW.out q1)
  have v1 := Lib.hid (ri_below hvcW.out q1)
  clear c0 c1 c2 c3 c4 c5 c6 c7 c8 q1
  obtain ⟨c0, c1, c2, c3, c4, c5, c6, c7, c8⟩ := held9 x1.out
  rcases A with _ | _
  · skip
    go_wp2_with fail
    go_ret
    exact ⟨ret_bool (by rw [← hR.out]; simp), b1.out⟩
  · skip
    by_cases hd : d = []
    · skip
      have hS0 := hSe.out hd
      subst hS0
      subst hd
      clear hSn
      go_wp2_with fail
      refine (hBn.out _ n1.out).mono ?_
      rintro e w2 ⟨rfl, q2⟩
      have x2 := Lib.hid (blk_below x1.out q2)
      have b2 := Lib.hid (below_on b1.out q2)
      have g2 := Lib.hid (ri_below g1.out q2)
      have v2 := Lib.hid (ri_below v1.out q2)
      clear c0 c1 c2 c3 c4 c5 c6 c7 c8 q2
      obtain ⟨c0, c1, c2, c3, c4, c5, c6, c7, c8⟩ := held9 x2.out
      rcases Bn with _ | _
      · skip
        go_wp2_with fail
        go_ret
        exact ⟨ret_bool (by rw [← hR.out]; simp), b2.out⟩
      · skip
        go_wp2_with fail
        refine (hCg.out _ g2.out).mono ?_
        rintro e w3 ⟨rfl, q3⟩
        have x3 := Lib.hid (blk_below x2.out q3)
        have b3 := Lib.hid (below_on b2.out q3)
        have v3 := Lib.hid (ri_below v2.out q3)
        clear c0 c1 c2 c3 c4 c5 c6 c7 c8 q3
        obtain ⟨c0, c1, c2, c3, c4, c5, c6, c7, c8⟩ := held9 x3.out
        rcases Cg with _ | _
        · skip
          go_wp2_with fail
          go_ret
          exact ⟨ret_bool (by rw [← hR.out]; simp), b3.out⟩
        · skip
          by_cases hg : g = []
          · skip
            obtain rfl := hon.out rfl hg
            subst hg
            by_cases h32 : c.length ≤ 32
            · skip
              have t32 : (c.length : Int) ≤ 32 := by omega
              by_cases hc : c = []
              · skip
                subst hc
                go_wp2_with fail
                refine (hCt.out _ v3.out).mono ?_
                rintro e w4 ⟨rfl, rfl⟩
                go_wp2_with fail
                go_ret
                exact ⟨ret_bool (by rw [← hR.out]; simp), b3.out⟩
              · skip
                have tc : ¬ ((c.length : Int) = 0) := fun e => hc (List.eq_nil_of_length_eq_zero (by omega))
                have uc : ((c.length : Int) == 0) = false := beq_eq_false_iff_ne.2 tc
                clear tc
                go_wp2_with fail
                go_ret
                exact ⟨ret_bool (by rw [← hR.out]; simp [hc]), b3.out⟩
            · skip
              have t32 : ¬ (c.length : Int) ≤ 32 := by omega
              go_wp2_with fail
              go_ret
              exact ⟨ret_bool (by rw [← hR.out]; simp [h32]), b3.out⟩
          · skip
            have tg : ¬ ((g.length : Int) = 0) := fun e => hg (List.eq_nil_of_length_eq_zero (by omega))
            have ug : ((g.length : Int) == 0) = false := beq_eq_false_iff_ne.2 tg
            clear tg
            go_wp2_with fail
            go_ret
            exact ⟨ret_bool (by rw [← hR.out]; simp [hg]), b3.out⟩
    · skip
      have uS : ((S.size : Int) == 0) = false := beq_eq_false_iff_ne.2 (by have := hSn.out hd; omega)
      go_wp2_with fail
      go_ret
      exact ⟨ret_bool (by rw [← hR.out]; simp [hd]), b1.out⟩
set_option maxHeartbeats 12800000 in
set_option maxRecDepth 100000 in
theorem sane15_k2 (v : Value) (m : MS) (w : World) (hk : m.kind = 2) (hT : Tabs w) (hs : Mch.Small m) (hv : RM w v m) : Calls Tryz.prog 20 #[v] w fun e w' => e = .returned (.bool (Mch.saneM m)) ∧ Below w.heap.size w w' := by
  have hv0 := hv
  obtain ⟨vn, vg, vc, rfl, hvn, hvg, hvc⟩ := hv
  obtain ⟨pn, cn, rfl⟩ := ri_form hvn
  obtain ⟨pg, cg, rfl⟩ := ri_form hvg
  obtain ⟨pc, cc, rfl⟩ := ri_form hvc
  obtain ⟨hsd, hsn, hsg, hsc⟩ := hs
  obtain ⟨kind, d, n, g, ⟨on, kd, pi, od⟩, c⟩ := m
  unfold mchV strV
  dsimp only at hvn hvg hvc hsd hsn hsg hsc hk ⊢
  obtain rfl := hk
  have hA := fun W' hT' => Tx.sane_any ⟨d.toArray⟩ W' hT'
  rw [Dec.saneB_eq] at hA
  obtain ⟨S, hS⟩ : ∃ S : ByteArray, (⟨d.toArray⟩ : ByteArray) = S := ⟨_, rfl⟩
  have hSe : d = [] → S = ⟨#[]⟩ := by rintro rfl; exact hS.symm
  have hSn : ¬ d = [] → ¬ S.size = 0 := fun h e => h (by rw [← hS] at e; exact List.length_eq_zero_iff.1 (by simpa [ByteArray.size] using e))
  rw [hS] at hA ⊢
  have hb := below_new w (.cells #[.int .i64 2, .string S, .slice pn n.length cn, .slice pg g.length cg, .bool on, .int .i64 kd, .bool pi, .bool od, .slice pc c.length cc] 41)
  have hx := Lib.hid (blk_new w #[.int .i64 2, .string S, .slice pn n.length cn, .slice pg g.length cg, .bool on, .int .i64 kd, .bool pi, .bool od, .slice pc c.length cc] 41)
  obtain ⟨W, hW⟩ : ∃ W, w.alloc (.cells #[.int .i64 2, .string S, .slice pn n.length cn, .slice pg g.length cg, .bool on, .int .i64 kd, .bool pi, .bool od, .slice pc c.length cc] 41) = W := ⟨_, rfl⟩
  rw [hW] at hb hx
  have hvnW := Lib.hid (ri_below hvn hb)
  have hvgW := Lib.hid (ri_below hvg hb)
  have hvcW := Lib.hid (ri_below hvc hb)
  have hTW := Lib.hid (tabs_below15 hT hb)
  have hBn := fun W' (h : RI W' (.slice pn n.length cn) n) => saneC9 _ n W' (by omega) h
  have hCg := fun W' (h : RI W' (.slice pg g.length cg) g) => sane12_any _ g ⟨on, kd, pi, od⟩ W' (by omega) h
  have hCt := fun W' (h : RI W' (.slice pc c.length cc) c) => contains15_any _ c (-1) W' (by omega) h
  unfold sgV at hCg
  dsimp only at hCg
  obtain ⟨R, hR⟩ : ∃ R, Mch.saneM ⟨2, d, n, g, ⟨on, kd, pi, od⟩, c⟩ = R := ⟨_, rfl⟩
  rw [hR]
  unfold Mch.saneM at hR
  dsimp only at hR
  rw [all_contains15] at hR
  obtain ⟨A, hAe⟩ : ∃ A, Dec.saneL d = A := ⟨_, rfl⟩
  obtain ⟨Bn, hBe⟩ : ∃ Bn, Nor.saneB n = Bn := ⟨_, rfl⟩
  obtain ⟨Cg, hCe⟩ : ∃ Cg, Sgm.saneB g ⟨on, kd, pi, od⟩ = Cg := ⟨_, rfl⟩
  obtain ⟨Ct, hCte⟩ : ∃ Ct, c.contains (-1) = Ct := ⟨_, rfl⟩
  have hon : Cg = true → g = [] → on = false := by rintro rfl rfl; exact seg_off15 hCe
  rw [hAe] at hA hR
  rw [hBe] at hBn hR
  rw [hCe] at hCg hR
  rw [hCte] at hCt hR
  have hCt0 : c = [] → Ct = false := by rintro rfl; rw [← hCte]; rfl
  replace hA := Lib.hid hA
  replace hBn := Lib.hid hBn
  replace hCg := Lib.hid hCg
  replace hCt := Lib.hid hCt
  replace hR := Lib.hid hR
  replace hb := Lib.hid hb
  replace hW := Lib.hid hW
  replace hon := Lib.hid hon
  replace hSe := Lib.hid hSe
  replace hSn := Lib.hid hSn
  replace hCt0 := Lib.hid hCt0
  clear hvn hvg hvc hAe hBe hCe hCte hS hT hv0
  go_enter Tryz.func20, Tryz.ntmps20
  go_upto_region 1 with (fail)
  rw [hW.out]
  obtain ⟨c0, c1, c2, c3, c4, c5, c6, c7, c8⟩ := held9 hx.out
  go_upto_region 2 with (fail)
  refine wp_region_lit ?_
  simp only [List.append]
  go_wp2_with fail
  refine (hA.out _ hTW.out).mono ?_
  rintro e w1 ⟨rfl, q1⟩
  have x1 := Lib.hid (blk_below hx.out q1)
  have b1 := Lib.hid (below_on hb.out q1)
  have n1 := Lib.hid (ri_below hvnW.out q1)
  have g1 := Lib.hid (ri_below hvgW.out q1)
  have v1 := Lib.hid (ri_below hvcW.out q1)
  clear c0 c1 c2 c3 c4 c5 c6 c7 c8 q1
  obtain ⟨c0, c1, c2, c3, c4, c5, c6, c7, c8⟩ := held9 x1.out
  rcases A with _ | _
  · skip
    go_wp2_with fail
    go_ret
    exact ⟨ret_bool (by rw [← hR.out]; simp), b1.out⟩
  · skip
    by_cases hd : d = []
    · skip
      have hS0 := hSe.out hd
      subst hS0
      subst hd
      clear hSn
      go_wp2_with fail
      refine (hBn.out _ n1.out).mono ?_
      rintro e w2 ⟨rfl, q2⟩
      have x2 := Lib.hid (blk_below x1.out q2)
      have b2 := Lib.hid (below_on b1.out q2)
      have g2 := Lib.hid (ri_below g1.out q2)
      have v2 := Lib.hid (ri_below v1.out q2)
      clear c0 c1 c2 c3 c4 c5 c6 c7 c8 q2
      obtain ⟨c0, c1, c2, c3, c4, c5, c6, c7, c8⟩ := held9 x2.out
      rcases Bn with _ | _
      · skip
        go_wp2_with fail
        go_ret
        exact ⟨ret_bool (by rw [← hR.out]; simp), b2.out⟩
      · skip
        go_wp2_with fail
        refine (hCg.out _ g2.out).mono ?_
        rintro e w3 ⟨rfl, q3⟩
        have x3 := Lib.hid (blk_below x2.out q3)
        have b3 := Lib.hid (below_on b2.out q3)
        have v3 := Lib.hid (ri_below v2.out q3)
        clear c0 c1 c2 c3 c4 c5 c6 c7 c8 q3
        obtain ⟨c0, c1, c2, c3, c4, c5, c6, c7, c8⟩ := held9 x3.out
        rcases Cg with _ | _
        · skip
          go_wp2_with fail
          go_ret
          exact ⟨ret_bool (by rw [← hR.out]; simp), b3.out⟩
        · skip
          by_cases hg : g = []
          · skip
            obtain rfl := hon.out rfl hg
            subst hg
            by_cases h32 : c.length ≤ 32
            · skip
              have t32 : (c.length : Int) ≤ 32 := by omega
              by_cases hc : c = []
              · skip
                subst hc
                go_wp2_with fail
                refine (hCt.out _ v3.out).mono ?_
                rintro e w4 ⟨rfl, rfl⟩
                go_wp2_with fail
                go_ret
                exact ⟨ret_bool (by rw [← hR.out]; simp), b3.out⟩
              · skip
                have tc : ¬ ((c.length : Int) = 0) := fun e => hc (List.eq_nil_of_length_eq_zero (by omega))
                have uc : ((c.length : Int) == 0) = false := beq_eq_false_iff_ne.2 tc
                clear tc
                go_wp2_with fail
                go_ret
                exact ⟨ret_bool (by rw [← hR.out]; simp [hc]), b3.out⟩
            · skip
              have t32 : ¬ (c.length : Int) ≤ 32 := by omega
              go_wp2_with fail
              go_ret
              exact ⟨ret_bool (by rw [← hR.out]; simp [h32]), b3.out⟩
          · skip
            have tg : ¬ ((g.length : Int) = 0) := fun e => hg (List.eq_nil_of_length_eq_zero (by omega))
            have ug : ((g.length : Int) == 0) = false := beq_eq_false_iff_ne.2 tg
            clear tg
            go_wp2_with fail
            go_ret
            exact ⟨ret_bool (by rw [← hR.out]; simp [hg]), b3.out⟩
    · skip
      have uS : ((S.size : Int) == 0) = false := beq_eq_false_iff_ne.2 (by have := hSn.out hd; omega)
      go_wp2_with fail
      go_ret
      exact ⟨ret_bool (by rw [← hR.out]; simp [hd]), b1.out⟩
set_option maxHeartbeats 12800000 in
set_option maxRecDepth 100000 in
theorem sane15_k3 (v : Value) (m : MS) (w : World) (hk : m.kind = 3) (hT : Tabs w) (hs : Mch.Small m) (hv : RM w v m) : Calls Tryz.prog 20 #[v] w fun e w' => e = .returned (.bool (Mch.saneM m)) ∧ Below w.heap.size w w' := by
  have hv0 := hv
  obtain ⟨vn, vg, vc, rfl, hvn, hvg, hvc⟩ := hv
  obtain ⟨pn, cn, rfl⟩ := ri_form hvn
  obtain ⟨pg, cg, rfl⟩ := ri_form hvg
  obtain ⟨pc, cc, rfl⟩ := ri_form hvc
  obtain ⟨hsd, hsn, hsg, hsc⟩ := hs
  obtain ⟨kind, d, n, g, ⟨on, kd, pi, od⟩, c⟩ := m
  unfold mchV strV
  dsimp only at hvn hvg hvc hsd hsn hsg hsc hk ⊢
  obtain rfl := hk
  have hA := fun W' hT' => Tx.sane_any ⟨d.toArray⟩ W' hT'
  rw [Dec.saneB_eq] at hA
  obtain ⟨S, hS⟩ : ∃ S : ByteArray, (⟨d.toArray⟩ : ByteArray) = S := ⟨_, rfl⟩
  have hSe : d = [] → S = ⟨#[]⟩ := by rintro rfl; exact hS.symm
  have hSn : ¬ d = [] → ¬ S.size = 0 := fun h e => h (by rw [← hS] at e; exact List.length_eq_zero_iff.1 (by simpa [ByteArray.size] using e))
  rw [hS] at hA ⊢
  have hb := below_new w (.cells #[.int .i64 3, .string S, .slice pn n.length cn, .slice pg g.length cg, .bool on, .int .i64 kd, .bool pi, .bool od, .slice pc c.length cc] 41)
  have hx := Lib.hid (blk_new w #[.int .i64 3, .string S, .slice pn n.length cn, .slice pg g.length cg, .bool on, .int .i64 kd, .bool pi, .bool od, .slice pc c.length cc] 41)
  obtain ⟨W, hW⟩ : ∃ W, w.alloc (.cells #[.int .i64 3, .string S, .slice pn n.length cn, .slice pg g.length cg, .bool on, .int .i64 kd, .bool pi, .bool od, .slice pc c.length cc] 41) = W := ⟨_, rfl⟩
  rw [hW] at hb hx
  have hvnW := Lib.hid (ri_below hvn hb)
  have hvgW := Lib.hid (ri_below hvg hb)
  have hvcW := Lib.hid (ri_below hvc hb)
  have hTW := Lib.hid (tabs_below15 hT hb)
  have hBn := fun W' (h : RI W' (.slice pn n.length cn) n) => saneC9 _ n W' (by omega) h
  have hCg := fun W' (h : RI W' (.slice pg g.length cg) g) => sane12_any _ g ⟨on, kd, pi, od⟩ W' (by omega) h
  have hCt := fun W' (h : RI W' (.slice pc c.length cc) c) => contains15_any _ c (-1) W' (by omega) h
  unfold sgV at hCg
  dsimp only at hCg
  obtain ⟨R, hR⟩ : ∃ R, Mch.saneM ⟨3, d, n, g, ⟨on, kd, pi, od⟩, c⟩ = R := ⟨_, rfl⟩
  rw [hR]
  unfold Mch.saneM at hR
  dsimp only at hR
  rw [all_contains15] at hR
  obtain ⟨A, hAe⟩ : ∃ A, Dec.saneL d = A := ⟨_, rfl⟩
  obtain ⟨Bn, hBe⟩ : ∃ Bn, Nor.saneB n = Bn := ⟨_, rfl⟩
  obtain ⟨Cg, hCe⟩ : ∃ Cg, Sgm.saneB g ⟨on, kd, pi, od⟩ = Cg := ⟨_, rfl⟩
  obtain ⟨Ct, hCte⟩ : ∃ Ct, c.contains (-1) = Ct := ⟨_, rfl⟩
  have hon : Cg = true → g = [] → on = false := by rintro rfl rfl; exact seg_off15 hCe
  rw [hAe] at hA hR
  rw [hBe] at hBn hR
  rw [hCe] at hCg hR
  rw [hCte] at hCt hR
  have hCt0 : c = [] → Ct = false := by rintro rfl; rw [← hCte]; rfl
  replace hA := Lib.hid hA
  replace hBn := Lib.hid hBn
  replace hCg := Lib.hid hCg
  replace hCt := Lib.hid hCt
  replace hR := Lib.hid hR
  replace hb := Lib.hid hb
  replace hW := Lib.hid hW
  replace hon := Lib.hid hon
  replace hSe := Lib.hid hSe
  replace hSn := Lib.hid hSn
  replace hCt0 := Lib.hid hCt0
  clear hvn hvg hvc hAe hBe hCe hCte hS hT hv0
  go_enter Tryz.func20, Tryz.ntmps20
  go_upto_region 1 with (fail)
  rw [hW.out]
  obtain ⟨c0, c1, c2, c3, c4, c5, c6, c7, c8⟩ := held9 hx.out
  go_upto_region 2 with (fail)
  refine wp_region_lit ?_
  simp only [List.append]
  go_wp2_with fail
  refine (hA.out _ hTW.out).mono ?_
  rintro e w1 ⟨rfl, q1⟩
  have x1 := Lib.hid (blk_below hx.out q1)
  have b1 := Lib.hid (below_on hb.out q1)
  have n1 := Lib.hid (ri_below hvnW.out q1)
  have g1 := Lib.hid (ri_below hvgW.out q1)
  have v1 := Lib.hid (ri_below hvcW.out q1)
  clear c0 c1 c2 c3 c4 c5 c6 c7 c8 q1
  obtain ⟨c0, c1, c2, c3, c4, c5, c6, c7, c8⟩ := held9 x1.out
  rcases A with _ | _
  · skip
    go_wp2_with fail
    go_ret
    exact ⟨ret_bool (by rw [← hR.out]; simp), b1.out⟩
  · skip
    by_cases hd : d = []
    · skip
      have hS0 := hSe.out hd
      subst hS0
      subst hd
      clear hSn
      go_wp2_with fail
      refine (hBn.out _ n1.out).mono ?_
      rintro e w2 ⟨rfl, q2⟩
      have x2 := Lib.hid (blk_below x1.out q2)
      have b2 := Lib.hid (below_on b1.out q2)
      have g2 := Lib.hid (ri_below g1.out q2)
      have v2 := Lib.hid (ri_below v1.out q2)
      clear c0 c1 c2 c3 c4 c5 c6 c7 c8 q2
      obtain ⟨c0, c1, c2, c3, c4, c5, c6, c7, c8⟩ := held9 x2.out
      rcases Bn with _ | _
      · skip
        go_wp2_with fail
        go_ret
        exact ⟨ret_bool (by rw [← hR.out]; simp), b2.out⟩
      · skip
        by_cases hn : n = []
        · skip
          subst hn
          go_wp2_with fail
          refine (hCg.out _ g2.out).mono ?_
          rintro e w3 ⟨rfl, q3⟩
          have x3 := Lib.hid (blk_below x2.out q3)
          have b3 := Lib.hid (below_on b2.out q3)
          have v3 := Lib.hid (ri_below v2.out q3)
          clear c0 c1 c2 c3 c4 c5 c6 c7 c8 q3
          obtain ⟨c0, c1, c2, c3, c4, c5, c6, c7, c8⟩ := held9 x3.out
          rcases Cg with _ | _
          · skip
            go_wp2_with fail
            go_ret
            exact ⟨ret_bool (by rw [← hR.out]; simp), b3.out⟩
          · skip
            by_cases h32 : c.length ≤ 32
            · skip
              have t32 : (c.length : Int) ≤ 32 := by omega
              by_cases hc : c = []
              · skip
                subst hc
                go_wp2_with fail
                refine (hCt.out _ v3.out).mono ?_
                rintro e w4 ⟨rfl, rfl⟩
                go_wp2_with fail
                go_ret
                exact ⟨ret_bool (by rw [← hR.out]; simp), b3.out⟩
              · skip
                have tc : ¬ ((c.length : Int) = 0) := fun e => hc (List.eq_nil_of_length_eq_zero (by omega))
                have uc : ((c.length : Int) == 0) = false := beq_eq_false_iff_ne.2 tc
                clear tc
                go_wp2_with fail
                go_ret
                exact ⟨ret_bool (by rw [← hR.out]; simp [hc]), b3.out⟩
            · skip
              have t32 : ¬ (c.length : Int) ≤ 32 := by omega
              go_wp2_with fail
              go_ret
              exact ⟨ret_bool (by rw [← hR.out]; simp [h32]), b3.out⟩
        · skip
          have tn : ¬ ((n.length : Int) = 0) := fun e => hn (List.eq_nil_of_length_eq_zero (by omega))
          have un : ((n.length : Int) == 0) = false := beq_eq_false_iff_ne.2 tn
          clear tn
          go_wp2_with fail
          go_ret
          exact ⟨ret_bool (by rw [← hR.out]; simp [hn]), b2.out⟩
    · skip
      have uS : ((S.size : Int) == 0) = false := beq_eq_false_iff_ne.2 (by have := hSn.out hd; omega)
      go_wp2_with fail
      go_ret
      exact ⟨ret_bool (by rw [← hR.out]; simp [hd]), b1.out⟩
set_option maxHeartbeats 12800000 in
set_option maxRecDepth 100000 in
theorem sane15_k4 (v : Value) (m : MS) (w : World) (hk : m.kind = 4) (hT : Tabs w) (hs : Mch.Small m) (hv : RM w v m) : Calls Tryz.prog 20 #[v] w fun e w' => e = .returned (.bool (Mch.saneM m)) ∧ Below w.heap.size w w' := by
  have hv0 := hv
  obtain ⟨vn, vg, vc, rfl, hvn, hvg, hvc⟩ := hv
  obtain ⟨pn, cn, rfl⟩ := ri_form hvn
  obtain ⟨pg, cg, rfl⟩ := ri_form hvg
  obtain ⟨pc, cc, rfl⟩ := ri_form hvc
  obtain ⟨hsd, hsn, hsg, hsc⟩ := hs
  obtain ⟨kind, d, n, g, ⟨on, kd, pi, od⟩, c⟩ := m
  unfold mchV strV
  dsimp only at hvn hvg hvc hsd hsn hsg hsc hk ⊢
  obtain rfl := hk
  have hA := fun W' hT' => Tx.sane_any ⟨d.toArray⟩ W' hT'
  rw [Dec.saneB_eq] at hA
  obtain ⟨S, hS⟩ : ∃ S : ByteArray, (⟨d.toArray⟩ : ByteArray) = S := ⟨_, rfl⟩
  have hSe : d = [] → S = ⟨#[]⟩ := by rintro rfl; exact hS.symm
  have hSn : ¬ d = [] → ¬ S.size = 0 := fun h e => h (by rw [← hS] at e; exact List.length_eq_zero_iff.1 (by simpa [ByteArray.size] using e))
  rw [hS] at hA ⊢
  have hb := below_new w (.cells #[.int .i64 4, .string S, .slice pn n.length cn, .slice pg g.length cg, .bool on, .int .i64 kd, .bool pi, .bool od, .slice pc c.length cc] 41)
  have hx := Lib.hid (blk_new w #[.int .i64 4, .string S, .slice pn n.length cn, .slice pg g.length cg, .bool on, .int .i64 kd, .bool pi, .bool od, .slice pc c.length cc] 41)
  obtain ⟨W, hW⟩ : ∃ W, w.alloc (.cells #[.int .i64 4, .string S, .slice pn n.length cn, .slice pg g.length cg, .bool on, .int .i64 kd, .bool pi, .bool od, .slice pc c.length cc] 41) = W := ⟨_, rfl⟩
  rw [hW] at hb hx
  have hvnW := Lib.hid (ri_below hvn hb)
  have hvgW := Lib.hid (ri_below hvg hb)
  have hvcW := Lib.hid (ri_below hvc hb)
  have hTW := Lib.hid (tabs_below15 hT hb)
  have hBn := fun W' (h : RI W' (.slice pn n.length cn) n) => saneC9 _ n W' (by omega) h
  have hCg := fun W' (h : RI W' (.slice pg g.length cg) g) => sane12_any _ g ⟨on, kd, pi, od⟩ W' (by omega) h
  have hCt := fun W' (h : RI W' (.slice pc c.length cc) c) => contains15_any _ c (-1) W' (by omega) h
  unfold sgV at hCg
  dsimp only at hCg
  obtain ⟨R, hR⟩ : ∃ R, Mch.saneM ⟨4, d, n, g, ⟨on, kd, pi, od⟩, c⟩ = R := ⟨_, rfl⟩
  rw [hR]
  unfold Mch.saneM at hR
  dsimp only at hR
  rw [all_contains15] at hR
  obtain ⟨A, hAe⟩ : ∃ A, Dec.saneL d = A := ⟨_, rfl⟩
  obtain ⟨Bn, hBe⟩ : ∃ Bn, Nor.saneB n = Bn := ⟨_, rfl⟩
  obtain ⟨Cg, hCe⟩ : ∃ Cg, Sgm.saneB g ⟨on, kd, pi, od⟩ = Cg := ⟨_, rfl⟩
  obtain ⟨Ct, hCte⟩ : ∃ Ct, c.contains (-1) = Ct := ⟨_, rfl⟩
  have hon : Cg = true → g = [] → on = false := by rintro rfl rfl; exact seg_off15 hCe
  rw [hAe] at hA hR
  rw [hBe] at hBn hR
  rw [hCe] at hCg hR
  rw [hCte] at hCt hR
  have hCt0 : c = [] → Ct = false := by rintro rfl; rw [← hCte]; rfl
  replace hA := Lib.hid hA
  replace hBn := Lib.hid hBn
  replace hCg := Lib.hid hCg
  replace hCt := Lib.hid hCt
  replace hR := Lib.hid hR
  replace hb := Lib.hid hb
  replace hW := Lib.hid hW
  replace hon := Lib.hid hon
  replace hSe := Lib.hid hSe
  replace hSn := Lib.hid hSn
  replace hCt0 := Lib.hid hCt0
  clear hvn hvg hvc hAe hBe hCe hCte hS hT hv0
  go_enter Tryz.func20, Tryz.ntmps20
  go_upto_region 1 with (fail)
  rw [hW.out]
  obtain ⟨c0, c1, c2, c3, c4, c5, c6, c7, c8⟩ := held9 hx.out
  go_upto_region 2 with (fail)
  refine wp_region_lit ?_
  simp only [List.append]
  go_wp2_with fail
  refine (hA.out _ hTW.out).mono ?_
  rintro e w1 ⟨rfl, q1⟩
  have x1 := Lib.hid (blk_below hx.out q1)
  have b1 := Lib.hid (below_on hb.out q1)
  have n1 := Lib.hid (ri_below hvnW.out q1)
  have g1 := Lib.hid (ri_below hvgW.out q1)
  have v1 := Lib.hid (ri_below hvcW.out q1)
  clear c0 c1 c2 c3 c4 c5 c6 c7 c8 q1
  obtain ⟨c0, c1, c2, c3, c4, c5, c6, c7, c8⟩ := held9 x1.out
  rcases A with _ | _
  · skip
    go_wp2_with fail
    go_ret
    exact ⟨ret_bool (by rw [← hR.out]; simp), b1.out⟩
  · skip
    by_cases hd : d = []
    · skip
      have hS0 := hSe.out hd
      subst hS0
      subst hd
      clear hSn
      go_wp2_with fail
      refine (hBn.out _ n1.out).mono ?_
      rintro e w2 ⟨rfl, q2⟩
      have x2 := Lib.hid (blk_below x1.out q2)
      have b2 := Lib.hid (below_on b1.out q2)
      have g2 := Lib.hid (ri_below g1.out q2)
      have v2 := Lib.hid (ri_below v1.out q2)
      clear c0 c1 c2 c3 c4 c5 c6 c7 c8 q2
      obtain ⟨c0, c1, c2, c3, c4, c5, c6, c7, c8⟩ := held9 x2.out
      rcases Bn with _ | _
      · skip
        go_wp2_with fail
        go_ret
        exact ⟨ret_bool (by rw [← hR.out]; simp), b2.out⟩
      · skip
        by_cases hn : n = []
        · skip
          subst hn
          go_wp2_with fail
          refine (hCg.out _ g2.out).mono ?_
          rintro e w3 ⟨rfl, q3⟩
          have x3 := Lib.hid (blk_below x2.out q3)
          have b3 := Lib.hid (below_on b2.out q3)
          have v3 := Lib.hid (ri_below v2.out q3)
          clear c0 c1 c2 c3 c4 c5 c6 c7 c8 q3
          obtain ⟨c0, c1, c2, c3, c4, c5, c6, c7, c8⟩ := held9 x3.out
          rcases Cg with _ | _
          · skip
            go_wp2_with fail
            go_ret
            exact ⟨ret_bool (by rw [← hR.out]; simp), b3.out⟩
          · skip
            by_cases hg : g = []
            · skip
              obtain rfl := hon.out rfl hg
              subst hg
              by_cases h32 : c.length ≤ 32
              · skip
                have t32 : (c.length : Int) ≤ 32 := by omega
                go_wp2_with fail
                refine (hCt.out _ v3.out).mono ?_
                rintro e w4 ⟨rfl, rfl⟩
                go_wp2_with fail
                go_ret
                exact ⟨ret_bool (by rw [← hR.out]; simp [h32]), b3.out⟩
              · skip
                have t32 : ¬ (c.length : Int) ≤ 32 := by omega
                go_wp2_with fail
                go_ret
                exact ⟨ret_bool (by rw [← hR.out]; simp [h32]), b3.out⟩
            · skip
              have tg : ¬ ((g.length : Int) = 0) := fun e => hg (List.eq_nil_of_length_eq_zero (by omega))
              have ug : ((g.length : Int) == 0) = false := beq_eq_false_iff_ne.2 tg
              clear tg
              go_wp2_with fail
              go_ret
              exact ⟨ret_bool (by rw [← hR.out]; simp [hg]), b3.out⟩
        · skip
          have tn : ¬ ((n.length : Int) = 0) := fun e => hn (List.eq_nil_of_length_eq_zero (by omega))
          have un : ((n.length : Int) == 0) = false := beq_eq_false_iff_ne.2 tn
          clear tn
          go_wp2_with fail
          go_ret
          exact ⟨ret_bool (by rw [← hR.out]; simp [hn]), b2.out⟩
    · skip
      have uS : ((S.size : Int) == 0) = false := beq_eq_false_iff_ne.2 (by have := hSn.out hd; omega)
      go_wp2_with fail
      go_ret
      exact ⟨ret_bool (by rw [← hR.out]; simp [hd]), b1.out⟩
set_option maxHeartbeats 12800000 in
set_option maxRecDepth 100000 in
theorem sane15_out (v : Value) (m : MS) (w : World) (hk : ¬ (0 ≤ m.kind ∧ m.kind ≤ 4)) (hT : Tabs w) (hs : Mch.Small m) (hv : RM w v m) : Calls Tryz.prog 20 #[v] w fun e w' => e = .returned (.bool (Mch.saneM m)) ∧ Below w.heap.size w w' := by
  have hv0 := hv
  obtain ⟨vn, vg, vc, rfl, hvn, hvg, hvc⟩ := hv
  obtain ⟨pn, cn, rfl⟩ := ri_form hvn
  obtain ⟨pg, cg, rfl⟩ := ri_form hvg
  obtain ⟨pc, cc, rfl⟩ := ri_form hvc
  obtain ⟨hsd, hsn, hsg, hsc⟩ := hs
  obtain ⟨kind, d, n, g, ⟨on, kd, pi, od⟩, c⟩ := m
  unfold mchV strV
  dsimp only at hvn hvg hvc hsd hsn hsg hsc hk ⊢
  skip
  have hA := fun W' hT' => Tx.sane_any ⟨d.toArray⟩ W' hT'
  rw [Dec.saneB_eq] at hA
  obtain ⟨S, hS⟩ : ∃ S : ByteArray, (⟨d.toArray⟩ : ByteArray) = S := ⟨_, rfl⟩
  have hSe : d = [] → S = ⟨#[]⟩ := by rintro rfl; exact hS.symm
  have hSn : ¬ d = [] → ¬ S.size = 0 := fun h e => h (by rw [← hS] at e; exact List.length_eq_zero_iff.1 (by simpa [ByteArray.size] using e))
  rw [hS] at hA ⊢
  have hb := below_new w (.cells #[.int .i64 kind, .string S, .slice pn n.length cn, .slice pg g.length cg, .bool on, .int .i64 kd, .bool pi, .bool od, .slice pc c.length cc] 41)
  have hx := Lib.hid (blk_new w #[.int .i64 kind, .string S, .slice pn n.length cn, .slice pg g.length cg, .bool on, .int .i64 kd, .bool pi, .bool od, .slice pc c.length cc] 41)
  obtain ⟨W, hW⟩ : ∃ W, w.alloc (.cells #[.int .i64 kind, .string S, .slice pn n.length cn, .slice pg g.length cg, .bool on, .int .i64 kd, .bool pi, .bool od, .slice pc c.length cc] 41) = W := ⟨_, rfl⟩
  rw [hW] at hb hx
  have hvnW := Lib.hid (ri_below hvn hb)
  have hvgW := Lib.hid (ri_below hvg hb)
  have hvcW := Lib.hid (ri_below hvc hb)
  have hTW := Lib.hid (tabs_below15 hT hb)
  have hBn := fun W' (h : RI W' (.slice pn n.length cn) n) => saneC9 _ n W' (by omega) h
  have hCg := fun W' (h : RI W' (.slice pg g.length cg) g) => sane12_any _ g ⟨on, kd, pi, od⟩ W' (by omega) h
  have hCt := fun W' (h : RI W' (.slice pc c.length cc) c) => contains15_any _ c (-1) W' (by omega) h
  unfold sgV at hCg
  dsimp only at hCg
  obtain ⟨R, hR⟩ : ∃ R, Mch.saneM ⟨kind, d, n, g, ⟨on, kd, pi, od⟩, c⟩ = R := ⟨_, rfl⟩
  rw [hR]
  unfold Mch.saneM at hR
  dsimp only at hR
  rw [all_contains15] at hR
  obtain ⟨A, hAe⟩ : ∃ A, Dec.saneL d = A := ⟨_, rfl⟩
  obtain ⟨Bn, hBe⟩ : ∃ Bn, Nor.saneB n = Bn := ⟨_, rfl⟩
  obtain ⟨Cg, hCe⟩ : ∃ Cg, Sgm.saneB g ⟨on, kd, pi, od⟩ = Cg := ⟨_, rfl⟩
  obtain ⟨Ct, hCte⟩ : ∃ Ct, c.contains (-1) = Ct := ⟨_, rfl⟩
  have hon : Cg = true → g = [] → on = false := by rintro rfl rfl; exact seg_off15 hCe
  rw [hAe] at hA hR
  rw [hBe] at hBn hR
  rw [hCe] at hCg hR
  rw [hCte] at hCt hR
  have hCt0 : c = [] → Ct = false := by rintro rfl; rw [← hCte]; rfl
  replace hA := Lib.hid hA
  replace hBn := Lib.hid hBn
  replace hCg := Lib.hid hCg
  replace hCt := Lib.hid hCt
  replace hR := Lib.hid hR
  replace hb := Lib.hid hb
  replace hW := Lib.hid hW
  replace hon := Lib.hid hon
  replace hSe := Lib.hid hSe
  replace hSn := Lib.hid hSn
  replace hCt0 := Lib.hid hCt0
  clear hvn hvg hvc hAe hBe hCe hCte hS hT hv0
  have t1 : kind < 0 ∨ (¬ kind < 0 ∧ 4 < kind) := by omega
  rcases t1 with t1 | ⟨t1, t2⟩
  · have t3 : ¬ (0 ≤ kind) := by omega
    go_enter Tryz.func20, Tryz.ntmps20
    go_upto_region 1 with (fail)
    rw [hW.out]
    obtain ⟨c0, c1, c2, c3, c4, c5, c6, c7, c8⟩ := held9 hx.out
    go_upto_region 2 with (fail)
    refine wp_region_lit ?_
    simp only [List.append]
    go_wp2_with fail
    go_ret
    exact ⟨ret_bool (by rw [← hR.out]; simp; omega), hb.out⟩
  · have t3 : 0 ≤ kind := by omega
    have t4 : ¬ (kind ≤ 4) := by omega
    go_enter Tryz.func20, Tryz.ntmps20
    go_upto_region 1 with (fail)
    rw [hW.out]
    obtain ⟨c0, c1, c2, c3, c4, c5, c6, c7, c8⟩ := held9 hx.out
    go_upto_region 2 with (fail)
    refine wp_region_lit ?_
    simp only [List.append]
    go_wp2_with fail
    go_ret
    exact ⟨ret_bool (by rw [← hR.out]; simp; omega), hb.out⟩
theorem sane15_any (v : Value) (m : MS) (w : World) (hT : Tabs w) (hs : Mch.Small m) (hv : RM w v m) : Calls Tryz.prog 20 #[v] w fun e w' => e = .returned (.bool (Mch.saneM m)) ∧ Below w.heap.size w w' := by
  by_cases hk : 0 ≤ m.kind ∧ m.kind ≤ 4
  · have hk5 : m.kind = 0 ∨ m.kind = 1 ∨ m.kind = 2 ∨ m.kind = 3 ∨ m.kind = 4 := by omega
    rcases hk5 with h | h | h | h | h
    · exact sane15_k0 v m w h hT hs hv
    · exact sane15_k1 v m w h hT hs hv
    · exact sane15_k2 v m w h hT hs hv
    · exact sane15_k3 v m w h hT hs hv
    · exact sane15_k4 v m w h hT hs hv
  · exact sane15_out v m w hk hT hs hv
theorem saneC15 : SaneC15 := fun v m w hT hs hv => sane15_any v m w hT hs hv
end Go.Proofs.YtiidjkhkcckmkaaGreatDoor

/- Layer 15: the code's known; what a State that may be is. -/
namespace Go.Proofs.YtiidjkhkcckmkaaGreatDoor
set_option linter.unusedSimpArgs false
set_option linter.unusedVariables false
open Go.RowKit Go.Lib
open Mch (MS)
def Known15 (v : Value) (m : MS) (w : World) (e : Ending) (w' : World) : Prop := ∃ va, e = .returned va ∧ RM w' va (Mch.asM m) ∧ (∀ j, OffM j v → OffM j va) ∧ Below w.heap.size w w'
set_option maxHeartbeats 6400000 in
set_option maxRecDepth 100000 in
theorem known15_any (v : Value) (m : MS) (w : World) (hT : Tabs w) (hs : Mch.Small m) (hv : RM w v m) : Calls Tryz.prog 28 #[v] w (Known15 v m w) := by
  have hv0 := hv
  obtain ⟨vn, vg, vc, rfl, hvn, hvg, hvc⟩ := hv
  obtain ⟨pn, cn, rfl⟩ := ri_form hvn
  obtain ⟨pg, cg, rfl⟩ := ri_form hvg
  obtain ⟨pc, cc, rfl⟩ := ri_form hvc
  have hbox0 := blk_new w #[.int .i64 m.kind, .string ⟨m.d.toArray⟩, .slice pn m.n.length cn, .slice pg m.g.length cg, .bool m.s.on, .int .i64 m.s.kind, .bool m.s.pict, .bool m.s.odd, .slice pc m.c.length cc] 41
  have hbox := blk_alloc hbox0 (.cells (bare9 0) 41)
  have hres := blk_new (w.alloc (.cells #[.int .i64 m.kind, .string ⟨m.d.toArray⟩, .slice pn m.n.length cn, .slice pg m.g.length cg, .bool m.s.on, .int .i64 m.s.kind, .bool m.s.pict, .bool m.s.odd, .slice pc m.c.length cc] 41)) (bare9 0) 41
  rw [World.size_alloc] at hres
  have hb0 := (below_new w (.cells #[.int .i64 m.kind, .string ⟨m.d.toArray⟩, .slice pn m.n.length cn, .slice pg m.g.length cg, .bool m.s.on, .int .i64 m.s.kind, .bool m.s.pict, .bool m.s.odd, .slice pc m.c.length cc] 41)).alloc (by simp) (.cells (bare9 0) 41)
  obtain ⟨W, hW⟩ : ∃ W, (w.alloc (.cells #[.int .i64 m.kind, .string ⟨m.d.toArray⟩, .slice pn m.n.length cn, .slice pg m.g.length cg, .bool m.s.on, .int .i64 m.s.kind, .bool m.s.pict, .bool m.s.odd, .slice pc m.c.length cc] 41)).alloc (.cells (bare9 0) 41) = W := ⟨_, rfl⟩
  rw [hW] at hbox hres hb0
  clear hbox0
  replace hW := Lib.hid hW
  have hsane := sane15_any _ m W (tabs_below15 hT hb0) hs (rm_below hv0 hb0)
  have hnew := fun W' => new15_any m.kind W'
  have hM1 : Mch.saneM m = true → Mch.asM m = m := Mch.as_same
  have hM2 : Mch.saneM m = false → Mch.asM m = Mch.bare (if 0 ≤ m.kind ∧ m.kind ≤ 4 then m.kind else 0) := fun h => by unfold Mch.asM; rw [if_neg (by rw [h]; simp)]; rfl
  obtain ⟨nk, hnk⟩ : ∃ nk, (if 0 ≤ m.kind ∧ m.kind ≤ 4 then m.kind else 0) = nk := ⟨_, rfl⟩
  rw [hnk] at hM2 hnew
  obtain ⟨M, hM⟩ : ∃ M, Mch.asM m = M := ⟨_, rfl⟩
  unfold Known15
  rw [hM] at hM1 hM2 ⊢
  obtain ⟨b, hb⟩ : ∃ b, Mch.saneM m = b := ⟨_, rfl⟩
  rw [hb] at hsane hM1 hM2
  unfold mchV strV at hsane ⊢
  replace hsane := Lib.hid hsane
  replace hnew := Lib.hid hnew
  replace hM1 := Lib.hid hM1
  replace hM2 := Lib.hid hM2
  replace hbox := Lib.hid hbox
  replace hres := Lib.hid hres
  replace hb0 := Lib.hid hb0
  replace hv0 := Lib.hid hv0
  replace hvn := Lib.hid hvn
  replace hvg := Lib.hid hvg
  replace hvc := Lib.hid hvc
  clear hM hb hnk hs hT
  go_enter Tryz.func28, Tryz.ntmps28
  go_upto_region 1 with (fail)
  rw [hW.out]
  obtain ⟨k0, k1, k2, k3, k4, k5, k6, k7, k8⟩ := held9 hbox.out
  go_wp2_with fail
  refine hsane.out.mono ?_
  rintro e w1 ⟨rfl, q1⟩
  have x1 := Lib.hid (blk_below hbox.out q1)
  have r1 := Lib.hid (blk_below hres.out q1)
  have b1 := Lib.hid (below_on hb0.out q1)
  clear q1 k0 k1 k2 k3 k4 k5 k6 k7 k8
  obtain ⟨k0, k1, k2, k3, k4, k5, k6, k7, k8⟩ := held9 x1.out
  rcases b with _ | _
  · obtain rfl := hM2.out rfl
    go_wp2_with fail
    refine (hnew.out _).mono ?_
    rintro e w2 ⟨rfl, q2⟩
    have r2 := blk_below r1.out q2
    have b2 := Lib.hid (below_on b1.out q2)
    clear q2
    obtain ⟨y0, y1, y2, y3, y4, y5, y6, y7, y8⟩ := held9 r2
    have fy0 := blk_thaw r2 0
    have fy1 := blk_thaw r2 1
    have fy2 := blk_thaw r2 2
    have fy3 := blk_thaw r2 3
    have fy4 := blk_thaw r2 4
    have fy5 := blk_thaw r2 5
    have fy6 := blk_thaw r2 6
    have fy7 := blk_thaw r2 7
    have fy8 := blk_thaw r2 8
    replace r2 := Lib.hid r2
    go_wp2_with fail
    have n9 := blk_set9 r2.out (.int .i64 nk) (.string ⟨#[]⟩) nilV nilV (.bool false) (.int .i64 0) (.bool false) (.bool false) nilV
    unfold set9 at n9
    have hb9 := below_set9 b2.out (Nat.le_succ w.heap.size) (.int .i64 nk) (.string ⟨#[]⟩) nilV nilV (.bool false) (.int .i64 0) (.bool false) (.bool false) nilV
    unfold set9 at hb9
    obtain ⟨z0, z1, z2, z3, z4, z5, z6, z7, z8⟩ := held9 n9
    refine bodyPost_ret (v := .agg (bare9 nk)) ?_ rfl ⟨_, rfl, ⟨nilV, nilV, nilV, rfl, .inl ⟨rfl, rfl⟩, .inl ⟨rfl, rfl⟩, .inl ⟨rfl, rfl⟩⟩, fun j _ => (offM_iff j (Mch.bare nk) _ _ _).2 ⟨off_nil j, off_nil j, off_nil j⟩, hb9⟩
    simp [results, Tryz.results28, go_sem, z0, z1, z2, z3, z4, z5, z6, z7, z8]
  · obtain rfl := hM1.out rfl
    have r1' := r1.out
    obtain ⟨y0, y1, y2, y3, y4, y5, y6, y7, y8⟩ := held9 r1'
    have fy0 := blk_thaw r1' 0
    have fy1 := blk_thaw r1' 1
    have fy2 := blk_thaw r1' 2
    have fy3 := blk_thaw r1' 3
    have fy4 := blk_thaw r1' 4
    have fy5 := blk_thaw r1' 5
    have fy6 := blk_thaw r1' 6
    have fy7 := blk_thaw r1' 7
    have fy8 := blk_thaw r1' 8
    clear r1'
    go_wp2_with fail
    have n9 := blk_set9 r1.out (.int .i64 M.kind) (.string ⟨M.d.toArray⟩) (.slice pn M.n.length cn) (.slice pg M.g.length cg) (.bool M.s.on) (.int .i64 M.s.kind) (.bool M.s.pict) (.bool M.s.odd) (.slice pc M.c.length cc)
    unfold set9 at n9
    have hb9 := below_set9 b1.out (Nat.le_succ w.heap.size) (.int .i64 M.kind) (.string ⟨M.d.toArray⟩) (.slice pn M.n.length cn) (.slice pg M.g.length cg) (.bool M.s.on) (.int .i64 M.s.kind) (.bool M.s.pict) (.bool M.s.odd) (.slice pc M.c.length cc)
    unfold set9 at hb9
    obtain ⟨z0, z1, z2, z3, z4, z5, z6, z7, z8⟩ := held9 n9
    refine bodyPost_ret (v := .agg #[.int .i64 M.kind, .string ⟨M.d.toArray⟩, .slice pn M.n.length cn, .slice pg M.g.length cg, .bool M.s.on, .int .i64 M.s.kind, .bool M.s.pict, .bool M.s.odd, .slice pc M.c.length cc]) ?_ rfl ⟨_, rfl, rm_below hv0.out hb9, fun j h => h, hb9⟩
    simp [results, Tryz.results28, go_sem, z0, z1, z2, z3, z4, z5, z6, z7, z8]
end Go.Proofs.YtiidjkhkcckmkaaGreatDoor

/- Layer 15: what the code's machines tell at the end. -/
namespace Go.Proofs.YtiidjkhkcckmkaaGreatDoor
set_option linter.unusedSimpArgs false
set_option linter.unusedVariables false
open Go.RowKit Go.Lib
open Mch (MS)
set_option maxHeartbeats 6400000 in
set_option maxRecDepth 100000 in
theorem endDecode15_any (v : Value) (m : MS) (w : World) (hT : Tabs w) (h0 : m.kind = 0) (hv : RM w v m) : Calls Tryz.prog 40 #[v] w (Makes (Mch.endK m) w) := by
  obtain ⟨vn, vg, vc, rfl, hvn, hvg, hvc⟩ := hv
  obtain ⟨pn, cn, rfl⟩ := ri_form hvn
  obtain ⟨pg, cg, rfl⟩ := ri_form hvg
  obtain ⟨pc, cc, rfl⟩ := ri_form hvc
  have hbox := blk_new w #[.int .i64 m.kind, .string ⟨m.d.toArray⟩, .slice pn m.n.length cn, .slice pg m.g.length cg, .bool m.s.on, .int .i64 m.s.kind, .bool m.s.pict, .bool m.s.odd, .slice pc m.c.length cc] 41
  have hb0 := below_new w (.cells #[.int .i64 m.kind, .string ⟨m.d.toArray⟩, .slice pn m.n.length cn, .slice pg m.g.length cg, .bool m.s.on, .int .i64 m.s.kind, .bool m.s.pict, .bool m.s.odd, .slice pc m.c.length cc] 41)
  obtain ⟨W, hW⟩ : ∃ W, w.alloc (.cells #[.int .i64 m.kind, .string ⟨m.d.toArray⟩, .slice pn m.n.length cn, .slice pg m.g.length cg, .bool m.s.on, .int .i64 m.s.kind, .bool m.s.pict, .bool m.s.odd, .slice pc m.c.length cc] 41) = W := ⟨_, rfl⟩
  rw [hW] at hbox hb0
  replace hW := Lib.hid hW
  obtain ⟨L, hL⟩ : ∃ L, Dec.endLL m.d = L := ⟨_, rfl⟩
  have hfk : Mch.endK m = L := by unfold Mch.endK; rw [if_pos h0, hL]
  rw [hfk]
  have hfd := fun W' hT' => Tx.end_any ⟨m.d.toArray⟩ W' hT'
  rw [Dec.begB_eq] at hfd
  unfold Dec.endLL at hL
  rw [hL] at hfd
  have hTW := tabs_below15 hT hb0
  unfold mchV strV
  replace hfd := Lib.hid hfd
  replace hTW := Lib.hid hTW
  replace hbox := Lib.hid hbox
  replace hb0 := Lib.hid hb0
  replace hvn := Lib.hid hvn
  replace hvg := Lib.hid hvg
  replace hvc := Lib.hid hvc
  replace h0 := Lib.hid h0
  clear hfk hT hL
  go_enter Tryz.func40, Tryz.ntmps40
  go_upto_region 1 with (fail)
  rw [hW.out]
  obtain ⟨k0, k1, k2, k3, k4, k5, k6, k7, k8⟩ := held9 hbox.out
  go_wp2_with fail
  refine (hfd.out _ hTW.out).mono ?_
  rintro e w3 ⟨vt, rfl, hot, q3⟩
  have o3 := Lib.hid (ownI_mono (show OwnI _ vt L w3 from hot) hb0.out.size)
  have b3 := Lib.hid (below_on hb0.out q3)
  clear q3 hot
  go_wp2_with fail
  go_ret
  exact ⟨_, rfl, o3.out, b3.out⟩
set_option maxHeartbeats 6400000 in
set_option maxRecDepth 100000 in
theorem endNorm15_any (v : Value) (m : MS) (w : World) (h0 : m.kind = 1 ∨ m.kind = 2) (hsm : Mch.Small m) (hv : RM w v m) : Calls Tryz.prog 41 #[v] w (Makes (Mch.endK m) w) := by
  obtain ⟨vn, vg, vc, rfl, hvn, hvg, hvc⟩ := hv
  obtain ⟨pn, cn, rfl⟩ := ri_form hvn
  obtain ⟨pg, cg, rfl⟩ := ri_form hvg
  obtain ⟨pc, cc, rfl⟩ := ri_form hvc
  have hbox := blk_new w #[.int .i64 m.kind, .string ⟨m.d.toArray⟩, .slice pn m.n.length cn, .slice pg m.g.length cg, .bool m.s.on, .int .i64 m.s.kind, .bool m.s.pict, .bool m.s.odd, .slice pc m.c.length cc] 41
  have hb0 := below_new w (.cells #[.int .i64 m.kind, .string ⟨m.d.toArray⟩, .slice pn m.n.length cn, .slice pg m.g.length cg, .bool m.s.on, .int .i64 m.s.kind, .bool m.s.pict, .bool m.s.odd, .slice pc m.c.length cc] 41)
  obtain ⟨W, hW⟩ : ∃ W, w.alloc (.cells #[.int .i64 m.kind, .string ⟨m.d.toArray⟩, .slice pn m.n.length cn, .slice pg m.g.length cg, .bool m.s.on, .int .i64 m.s.kind, .bool m.s.pict, .bool m.s.odd, .slice pc m.c.length cc] 41) = W := ⟨_, rfl⟩
  rw [hW] at hbox hb0
  replace hW := Lib.hid hW
  obtain ⟨L, hL⟩ : ∃ L, Nor.endI m.n = L := ⟨_, rfl⟩
  have hfk : Mch.endK m = L := by unfold Mch.endK; rw [if_neg (by omega), if_pos h0, hL]
  rw [hfk]
  have hfd := fun W' (h : RI W' (.slice pn m.n.length cn) m.n) => end9_own _ m.n W' (by have := hsm.n; omega) h
  rw [hL] at hfd
  unfold Makes at hfd
  have hvnW := ri_below hvn hb0
  unfold mchV strV
  replace hfd := Lib.hid hfd
  replace hvnW := Lib.hid hvnW
  replace hbox := Lib.hid hbox
  replace hb0 := Lib.hid hb0
  replace hvn := Lib.hid hvn
  replace hvg := Lib.hid hvg
  replace hvc := Lib.hid hvc
  replace h0 := Lib.hid h0
  clear hfk hL
  go_enter Tryz.func41, Tryz.ntmps41
  go_upto_region 1 with (fail)
  rw [hW.out]
  obtain ⟨k0, k1, k2, k3, k4, k5, k6, k7, k8⟩ := held9 hbox.out
  go_wp2_with fail
  refine (hfd.out _ hvnW.out).mono ?_
  rintro e w3 ⟨vt, rfl, hot, q3⟩
  have o3 := Lib.hid (ownI_mono hot hb0.out.size)
  have b3 := Lib.hid (below_on hb0.out q3)
  clear q3 hot
  go_wp2_with fail
  go_ret
  exact ⟨_, rfl, o3.out, b3.out⟩
set_option maxHeartbeats 6400000 in
set_option maxRecDepth 100000 in
theorem endSegment15_any (v : Value) (m : MS) (w : World) (h0 : m.kind = 3) (hsn : Mch.Sane m) (hsm : Mch.Small m) (hv : RM w v m) : Calls Tryz.prog 42 #[v] w (Makes (Mch.endK m) w) := by
  obtain ⟨vn, vg, vc, rfl, hvn, hvg, hvc⟩ := hv
  obtain ⟨pn, cn, rfl⟩ := ri_form hvn
  obtain ⟨pg, cg, rfl⟩ := ri_form hvg
  obtain ⟨pc, cc, rfl⟩ := ri_form hvc
  have hbox := blk_new w #[.int .i64 m.kind, .string ⟨m.d.toArray⟩, .slice pn m.n.length cn, .slice pg m.g.length cg, .bool m.s.on, .int .i64 m.s.kind, .bool m.s.pict, .bool m.s.odd, .slice pc m.c.length cc] 41
  have hb0 := below_new w (.cells #[.int .i64 m.kind, .string ⟨m.d.toArray⟩, .slice pn m.n.length cn, .slice pg m.g.length cg, .bool m.s.on, .int .i64 m.s.kind, .bool m.s.pict, .bool m.s.odd, .slice pc m.c.length cc] 41)
  obtain ⟨W, hW⟩ : ∃ W, w.alloc (.cells #[.int .i64 m.kind, .string ⟨m.d.toArray⟩, .slice pn m.n.length cn, .slice pg m.g.length cg, .bool m.s.on, .int .i64 m.s.kind, .bool m.s.pict, .bool m.s.odd, .slice pc m.c.length cc] 41) = W := ⟨_, rfl⟩
  rw [hW] at hbox hb0
  replace hW := Lib.hid hW
  obtain ⟨L, hL⟩ : ∃ L, Sgm.endI m.g m.s = L := ⟨_, rfl⟩
  have hfk : Mch.endK m = Mch.cutOf L := by unfold Mch.endK; rw [if_neg (by omega), if_neg (by omega), if_pos h0, hL]
  rw [hfk]
  have hLl : L.length ≤ 1000 := by
    rw [← hL, well_end12]
    have := well_len m.g m.s
    omega
  have hfd := fun W' (h : RI W' (.slice pg m.g.length cg) m.g) => end12_any _ m.g m.s W' (by have := hsm.g; omega) h
  rw [hL] at hfd
  have hcu := fun W' u (h : RI W' u L) => withCut15_any u L W' hLl h
  unfold Makes at hcu
  unfold sgV at hfd
  have hvgW := ri_below hvg hb0
  unfold mchV strV
  replace hfd := Lib.hid hfd
  replace hcu := Lib.hid hcu
  replace hvgW := Lib.hid hvgW
  replace hbox := Lib.hid hbox
  replace hb0 := Lib.hid hb0
  replace hvn := Lib.hid hvn
  replace hvg := Lib.hid hvg
  replace hvc := Lib.hid hvc
  replace h0 := Lib.hid h0
  clear hfk hL
  go_enter Tryz.func42, Tryz.ntmps42
  go_upto_region 1 with (fail)
  rw [hW.out]
  obtain ⟨k0, k1, k2, k3, k4, k5, k6, k7, k8⟩ := held9 hbox.out
  go_wp2_with fail
  refine (hfd.out _ hvgW.out).mono ?_
  rintro e w3 ⟨vt, rfl, hot, q3⟩
  have b3 := Lib.hid (below_on hb0.out q3)
  obtain ⟨pt, ct, rfl⟩ := ri_form (ri_of_own hot)
  have t3 := Lib.hid (ri_of_own hot)
  clear q3 hot
  go_wp2_with fail
  refine (hcu.out _ _ t3.out).mono ?_
  rintro e w4 ⟨vu, rfl, hou, q4⟩
  have o4 := Lib.hid (ownI_mono hou b3.out.size)
  have b4 := Lib.hid (below_on b3.out q4)
  clear q4 hou
  go_wp2_with fail
  go_ret
  exact ⟨_, rfl, o4.out, b4.out⟩
set_option maxHeartbeats 6400000 in
set_option maxRecDepth 100000 in
theorem endFramer15_any (v : Value) (m : MS) (w : World) (h0 : m.kind = 4) (hv : RM w v m) : Calls Tryz.prog 43 #[v] w (Makes (Mch.endK m) w) := by
  obtain ⟨vn, vg, vc, rfl, hvn, hvg, hvc⟩ := hv
  obtain ⟨pn, cn, rfl⟩ := ri_form hvn
  obtain ⟨pg, cg, rfl⟩ := ri_form hvg
  obtain ⟨pc, cc, rfl⟩ := ri_form hvc
  have hbox := blk_new w #[.int .i64 m.kind, .string ⟨m.d.toArray⟩, .slice pn m.n.length cn, .slice pg m.g.length cg, .bool m.s.on, .int .i64 m.s.kind, .bool m.s.pict, .bool m.s.odd, .slice pc m.c.length cc] 41
  have hb0 := below_new w (.cells #[.int .i64 m.kind, .string ⟨m.d.toArray⟩, .slice pn m.n.length cn, .slice pg m.g.length cg, .bool m.s.on, .int .i64 m.s.kind, .bool m.s.pict, .bool m.s.odd, .slice pc m.c.length cc] 41)
  obtain ⟨W, hW⟩ : ∃ W, w.alloc (.cells #[.int .i64 m.kind, .string ⟨m.d.toArray⟩, .slice pn m.n.length cn, .slice pg m.g.length cg, .bool m.s.on, .int .i64 m.s.kind, .bool m.s.pict, .bool m.s.odd, .slice pc m.c.length cc] 41) = W := ⟨_, rfl⟩
  rw [hW] at hbox hb0
  replace hW := Lib.hid hW
  have hfk : Mch.endK m = [] := by unfold Mch.endK; rw [if_neg (by omega), if_neg (by omega), if_neg (by omega)]
  rw [hfk]
  unfold mchV strV
  replace hbox := Lib.hid hbox
  replace hb0 := Lib.hid hb0
  replace hvn := Lib.hid hvn
  replace hvg := Lib.hid hvg
  replace hvc := Lib.hid hvc
  replace h0 := Lib.hid h0
  clear hfk
  go_enter Tryz.func43, Tryz.ntmps43
  go_upto_region 1 with (fail)
  rw [hW.out]
  obtain ⟨k0, k1, k2, k3, k4, k5, k6, k7, k8⟩ := held9 hbox.out
  go_wp2_with fail
  go_ret
  exact ⟨_, rfl, ownI_nil _ _, hb0.out⟩
end Go.Proofs.YtiidjkhkcckmkaaGreatDoor

