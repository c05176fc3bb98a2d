/- Layer 7: the code's places. -/
import Derived.Test.YtkhjkodeolaemaaDoorCnA2
import Derived.Test.YtkhjkodeolaemaaDoorG2
import Derived.Test.YtkhjkodeolaemaaDoorSs
import Derived.Test.YtkhjkodeolaemaaDoorPrA2
import Derived.Laws.MakeOwn
namespace Go.Proofs.YtkhjkodeolaemaaDoor
set_option linter.unusedSimpArgs false
set_option linter.unusedVariables false
open Go.Shelf Go.RowKit Go.Lib Go.Sort
open Stb

theorem blk_setAt7 {w : World} {k : Nat} {cs : Array Value} {T : TypeId} (h : Blk w k cs T) (i : Nat) (u : Value) : Blk (w.setCell ⟨k, i, none⟩ u) k (cs.setIfInBounds i u) T := by
  have := heap_setCell_same w k i cs T u h
  unfold Blk
  simpa using this

/-- the row of the k-th place -/
def rowAt (l : List Int) (k : Nat) : Int := cnt (placesR (l.take k) [])
theorem rowAt_zero (l : List Int) : rowAt l 0 = 0 := rfl
theorem rowAt_succ (l : List Int) (k : Nat) (h : k < l.length) : rowAt l (k + 1) = rowAt l k + (if Prp.cccI l[k] = 0 then 1 else 0) := by
  unfold rowAt
  rw [List.take_succ_eq_append_getElem h, placesR_snoc]
  unfold stepE
  rw [cnt_cons]
  dsimp only
  omega
theorem rowAt_bnd (l : List Int) : ∀ k, k ≤ l.length → 0 ≤ rowAt l k ∧ rowAt l k ≤ k
  | 0, _ => by rw [rowAt_zero]; omega
  | k + 1, h => by
    have := rowAt_bnd l k (by omega)
    rw [rowAt_succ l k (by omega)]
    split <;> omega

theorem placesI_snoc (l : List Int) (r : Int) : placesI (l ++ [r]) = placesI l ++ [(r, cnt (placesR l []) + (if Prp.cccI r = 0 then 1 else 0), Prp.cccI r, l.length)] := by
  unfold placesI
  rw [placesR_snoc]
  unfold stepE
  rw [List.reverse_cons, show (placesR l []).length = l.length by simp [placesR_len]]
theorem places_take (l : List Int) (k : Nat) (h : k < l.length) : placesI (l.take (k + 1)) = placesI (l.take k) ++ [(l[k], rowAt l (k + 1), Prp.cccI l[k], k)] := by
  rw [List.take_succ_eq_append_getElem h, placesI_snoc, rowAt_succ l k h, List.length_take, Nat.min_eq_left (by omega)]
  rfl
/-- the first k places, and nothing behind them -/
def partP (l : List Int) (k : Nat) : Array El := (placesI (l.take k) ++ List.replicate (l.length - k) default).toArray
theorem partP_size (l : List Int) (k : Nat) (h : k ≤ l.length) : (partP l k).size = l.length := by simp [partP, placesI_len]; omega
theorem partP_next (l : List Int) (k : Nat) (h : k < l.length) : (partP l k).setIfInBounds k (l[k], rowAt l (k + 1), Prp.cccI l[k], k) = partP l (k + 1) := by
  unfold partP
  rw [places_take l k h, List.setIfInBounds_toArray, show l.length - k = (l.length - (k + 1)) + 1 by omega, List.replicate_succ, List.set_append_right _ _ (by simp [placesI_len]; omega)]
  congr 1
  rw [show k - (placesI (l.take k)).length = 0 by simp [placesI_len]; omega]
  simp
theorem partP_last (l : List Int) : partP l l.length = (placesI l).toArray := by simp [partP]
theorem partP_id (l : List Int) : ∀ k, k ≤ l.length → ∀ t, t < k → ((partP l k)[t]!).2.2.2 = t
  | 0, _, t, ht => by omega
  | k + 1, hk, t, ht => by
    rw [← partP_next l k (by omega)]
    by_cases e : t = k
    · subst e
      rw [getElem!_set_same _ _ _ (by rw [partP_size l t (by omega)]; omega)]
    · have := partP_id l k (by omega) t (by omega)
      rw [Array.getElem!_eq_getD, Array.getD_eq_getD_getElem?, Array.getElem?_setIfInBounds, if_neg (fun h => e h.symm)]
      rw [Array.getElem!_eq_getD, Array.getD_eq_getD_getElem?] at this
      exact this

/-- one place written -/
theorem flat_set (d : Array El) (k : Nat) (hk : k < d.size) (x : El) :
    (((flatK encP 3 d).setIfInBounds (k * 3) (.int .i64 x.1)).setIfInBounds (k * 3 + 1) (.int .i64 x.2.1)).setIfInBounds (k * 3 + 2) (.int .i64 x.2.2.1) = flatK encP 3 (d.setIfInBounds k x) := by
  refine ext_get! (by simp) fun t ht => ?_
  have ht' : t < d.size * 3 := by simpa using ht
  rw [get_flatK _ _ _ _ (by simpa using ht')]
  have hg : ∀ i, i < d.size → (d.setIfInBounds k x)[i]! = if i = k then x else d[i]! := fun i hi => by
    by_cases e : i = k
    · subst e; rw [if_pos rfl, getElem!_set_same _ _ _ hi]
    · rw [if_neg e, Array.getElem!_eq_getD, Array.getD_eq_getD_getElem?, Array.getElem?_setIfInBounds, if_neg (fun h => e h.symm), Array.getElem!_eq_getD, Array.getD_eq_getD_getElem?]
  rw [hg (t / 3) (by omega)]
  have base : (flatK encP 3 d)[t]! = (encP d[t / 3]!)[t % 3]! := get_flatK _ _ _ _ ht'
  have step : ∀ (F : Array Value) (i : Nat) (v : Value), i < F.size → (F.setIfInBounds i v)[t]! = if t = i then v else F[t]! := fun F i v hi => by
    by_cases e : t = i
    · subst e; rw [if_pos rfl, getElem!_set_same _ _ _ hi]
    · rw [if_neg e, Array.getElem!_eq_getD, Array.getD_eq_getD_getElem?, Array.getElem?_setIfInBounds, if_neg (fun h => e h.symm), Array.getElem!_eq_getD, Array.getD_eq_getD_getElem?]
  rw [step _ _ _ (by simp; omega), step _ _ _ (by simp; omega), step _ _ _ (by simp; omega), base]
  by_cases e : t / 3 = k
  · rw [if_pos e]
    rcases (show t = k * 3 ∨ t = k * 3 + 1 ∨ t = k * 3 + 2 by omega) with h | h | h
    · rw [if_neg (by omega), if_neg (by omega), if_pos h, show t % 3 = 0 by omega]; rfl
    · rw [if_neg (by omega), if_pos h, show t % 3 = 1 by omega]; rfl
    · rw [if_pos h, show t % 3 = 2 by omega]; rfl
  · rw [if_neg e, if_neg (by omega), if_neg (by omega), if_neg (by omega)]

theorem info_p : (Tryd.prog.info? 39).map (fun i => (i.zero, i.size, i.bytes)) = some (some (.agg #[.int .i64 0, .int .i64 0, .int .i64 0]), 3, 24) := by kernel_rfl

theorem made_places (n : Nat) : madeCells (Value.agg #[.int .i64 0, .int .i64 0, .int .i64 0]).cells (n * 3) = flatK encP 3 (Array.replicate n default) := by
  refine ext_get! (by simp [size_madeCells]) fun t ht => ?_
  have ht' : t < n * 3 := by simpa [size_madeCells] using ht
  rw [get_flatK _ _ _ _ (by simpa using ht')]
  unfold madeCells
  rw [getElem!_pos _ t (by simpa using ht')]
  simp only [Array.getElem_map, Array.getElem_range, Value.cells, List.size_toArray, List.length_cons, List.length_nil]
  rw [show (Array.replicate n (default : El))[t / 3]! = default by rw [getElem!_pos _ _ (by simp; omega)]; simp]
  rcases (show t % 3 = 0 ∨ t % 3 = 1 ∨ t % 3 = 2 by omega) with h | h | h <;> rw [h] <;> rfl

theorem make_places (n : Nat) (hn : n ≤ 1000000) (W : World) : (Instr.makeSlice 35 (.int .i64 (n : Int)) (.int .i64 (n : Int))).run Tryd.prog W = .ok (.slice (some ⟨W.heap.size, 0, none⟩) n n) (W.alloc (.cells (flatK encP 3 (Array.replicate n default)) 39)) := by
  obtain ⟨i0, hi, h⟩ := Option.map_eq_some_iff.1 info_p
  simp only [Prod.mk.injEq] at h
  have hr := run_make (P := Tryd.prog) W 35 39 i0 _ Tryd.underlying35 hi h.1 .i64 .i64 (n : Int) (n : Int) (by omega) (Int.le_refl _) (by rw [h.2.2]; omega) (by omega)
  rw [Int.toNat_natCast, h.2.1, made_places] at hr
  exact hr

theorem holds_of_blk {w : World} {b : Nat} {d : Array El} {T : TypeId} (h : Blk w b (flatK encP 3 d) T) : HoldsK encP 3 w b 0 d := fun j hj => by
  rw [Nat.zero_add]
  exact ⟨blk_cell h j _ (by rw [getElem!_pos _ j hj]; exact Array.getElem?_eq_getElem hj), blk_thaw h j⟩

/-- what a call that tells places comes to -/
def Placed (l : List Int) (w : World) (e : Ending) (w' : World) : Prop := ∃ b, e = .returned (.slice (some ⟨b, 0, none⟩) l.length l.length) ∧ w.heap.size ≤ b ∧ b < w'.heap.size ∧ HoldsK encP 3 w' b 0 (placesI l).toArray ∧ Below w.heap.size w w'

/-- three cells of a block, each written behind the other -/
theorem store3 {w : World} {b : Nat} {F : Array Value} {T : TypeId} (h : Blk w b F T) (s : Nat) (x y z : Value) (hs : s + 2 < F.size) :
    w.cell? ⟨b, s, none⟩ = some F[s]! ∧ w.frozen? ⟨b, s, none⟩ = false ∧ (w.setCell ⟨b, s, none⟩ x).cell? ⟨b, s + 1, none⟩ = some F[s + 1]! ∧ (w.setCell ⟨b, s, none⟩ x).frozen? ⟨b, s + 1, none⟩ = false ∧
    ((w.setCell ⟨b, s, none⟩ x).setCell ⟨b, s + 1, none⟩ y).cell? ⟨b, s + 2, none⟩ = some F[s + 2]! ∧ ((w.setCell ⟨b, s, none⟩ x).setCell ⟨b, s + 1, none⟩ y).frozen? ⟨b, s + 2, none⟩ = false ∧
    Blk (((w.setCell ⟨b, s, none⟩ x).setCell ⟨b, s + 1, none⟩ y).setCell ⟨b, s + 2, none⟩ z) b (((F.setIfInBounds s x).setIfInBounds (s + 1) y).setIfInBounds (s + 2) z) T := by
  have h1 := blk_setAt7 h s x
  have h2 := blk_setAt7 h1 (s + 1) y
  have h3 := blk_setAt7 h2 (s + 2) z
  have g : ∀ i, i < F.size → F[i]? = some F[i]! := fun i hi => by rw [getElem!_pos F i hi]; exact Array.getElem?_eq_getElem hi
  refine ⟨blk_cell h s _ (g s (by omega)), blk_thaw h _, blk_cell h1 (s + 1) _ ?_, blk_thaw h1 _, blk_cell h2 (s + 2) _ ?_, blk_thaw h2 _, h3⟩
  · rw [Array.getElem?_setIfInBounds, if_neg (by omega)]; exact g _ (by omega)
  · rw [Array.getElem?_setIfInBounds, if_neg (by omega), Array.getElem?_setIfInBounds, if_neg (by omega)]; exact g _ (by omega)

set_option maxHeartbeats 3200000 in
set_option maxRecDepth 100000 in
theorem places_any (v : Value) (l : List Int) (w : World) (hl : l.length ≤ 1000000) (hv : RI w v l) : Calls Tryd.prog 24 #[v] w (Placed l w) := by
  obtain ⟨p, cap, rfl⟩ := ri_form hv
  have hmk := make_places l.length hl
  replace hv := Lib.hid hv
  go_enter Tryd.func24, Tryd.ntmps24
  go_wp2_with fail
  go_loopg [4, 5, 6, 7, 13] l.length (fun g v4 v5 v6 v7 v13 wr => ∃ k : Nat, k ≤ l.length ∧ v13 = .int .i64 k ∧ g = l.length - k ∧ v4 = .int .i64 (rowAt l k) ∧ Blk wr w.heap.size (flatK encP 3 (partP l k)) 39 ∧ Below w.heap.size w wr)
  case atStart => exact ⟨0, Nat.zero_le _, rfl, rfl, rfl, by have := blk_new w (flatK encP 3 (Array.replicate l.length default)) 39; rwa [show Array.replicate l.length default = partP l 0 by simp [partP, placesI, placesR]] at this, below_new w _⟩
  case round =>
    obtain ⟨k, hk, rfl, rfl, rfl, hblk, hbel⟩ := hrel
    by_cases hlt : k < l.length
    · have hlt' : (k : Int) < (l.length : Int) := by omega
      obtain ⟨b, off, rfl, hb, hcell⟩ := ri_at (ri_below hv.out hbel) (by omega)
      have hc := hcell k hlt
      have hrow := rowAt_bnd l k hk
      have hsn := rowAt_succ l k hlt
      have hpn := partP_next l k hlt
      have hps := partP_size l k hk
      obtain ⟨x, hx⟩ : ∃ x, l[k] = x := ⟨_, rfl⟩
      rw [hx] at hc hsn hpn
      obtain ⟨c, hcc⟩ : ∃ c, Prp.cccI x = c := ⟨_, rfl⟩
      have hccc := fun W => ccc_any x W
      rw [hcc] at hccc hsn hpn
      obtain ⟨R, hR⟩ : ∃ R, rowAt l k = R := ⟨_, rfl⟩
      rw [hR] at hrow hsn ⊢
      obtain ⟨R1, hR1⟩ : ∃ R1, rowAt l (k + 1) = R1 := ⟨_, rfl⟩
      rw [hR1] at hsn hpn
      have hfs := flat_set (partP l k) k (by omega) (x, R1, c, k)
      rw [hpn] at hfs
      have hF : k * 3 + 2 < (flatK encP 3 (partP l k)).size := by rw [size_flatK, hps]; omega
      obtain ⟨F, hFe⟩ : ∃ F, flatK encP 3 (partP l k) = F := ⟨_, rfl⟩
      rw [hFe] at hfs hF hblk
      replace hfs := Lib.hid hfs
      replace hF := Lib.hid hF
      replace hblk := Lib.hid hblk
      replace hbel := Lib.hid hbel
      replace hccc := Lib.hid hccc
      replace hR1 := Lib.hid hR1
      clear hcell hx hcc hR hmk hpn hps hFe
      by_cases hz : c = 0
      · subst hz
        rw [if_pos rfl] at hsn
        have hsn' : R + 1 = R1 := hsn.symm
        clear hsn
        go_wp2_with (go_at_call 19; refine (hccc.out _).mono ?_; rintro e w2 ⟨rfl, hb2⟩; obtain ⟨c0, z0, c1, z1, c2, z2, hB3⟩ := store3 (blk_below hblk.out hb2) (k * 3) (.int .i64 x) (.int .i64 R1) (.int .i64 0) hF.out; replace hB3 := Lib.hid hB3; replace hb2 := Lib.hid (below_on hbel.out hb2))
        go_roundg (l.length - (k + 1))
        case measure => omega
        case rel => exact ⟨k + 1, by omega, by go_num, rfl, by rw [hR1.out], by rw [← hfs.out]; exact hB3.out, ((hb2.out.setCell (p := ⟨_, _, none⟩) (Nat.le_refl _) _).setCell (p := ⟨_, _, none⟩) (Nat.le_refl _) _).setCell (p := ⟨_, _, none⟩) (Nat.le_refl _) _⟩
      · have hzB : (c == 0) = false := beq_eq_false_iff_ne.2 hz
        rw [if_neg hz, Int.add_zero] at hsn
        subst hsn
        clear hz
        go_wp2_with (go_at_call 19; refine (hccc.out _).mono ?_; rintro e w2 ⟨rfl, hb2⟩; obtain ⟨c0, z0, c1, z1, c2, z2, hB3⟩ := store3 (blk_below hblk.out hb2) (k * 3) (.int .i64 x) (.int .i64 R1) (.int .i64 c) hF.out; replace hB3 := Lib.hid hB3; replace hb2 := Lib.hid (below_on hbel.out hb2))
        go_roundg (l.length - (k + 1))
        case measure => omega
        case rel => exact ⟨k + 1, by omega, by go_num, rfl, by rw [hR1.out], by rw [← hfs.out]; exact hB3.out, ((hb2.out.setCell (p := ⟨_, _, none⟩) (Nat.le_refl _) _).setCell (p := ⟨_, _, none⟩) (Nat.le_refl _) _).setCell (p := ⟨_, _, none⟩) (Nat.le_refl _) _⟩
    · obtain rfl : k = l.length := by omega
      have hlt' : decide ((l.length : Int) < (l.length : Int)) = false := by simp
      replace hblk := Lib.hid hblk
      replace hbel := Lib.hid hbel
      clear hmk
      go_wp2_with fail
      go_ret
      exact ⟨_, rfl, Nat.le_refl _, blk_lt hblk.out, by rw [← partP_last]; exact holds_of_blk hblk.out, hbel.out⟩
end Go.Proofs.YtkhjkodeolaemaaDoor
