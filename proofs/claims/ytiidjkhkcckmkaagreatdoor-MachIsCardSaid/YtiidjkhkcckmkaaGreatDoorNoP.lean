/- Texts that stand together. -/
import Derived.Test.YtiidjkhkcckmkaaGreatDoorKP
import Derived.Shelf.Spec.SlicesInsert
import Derived.Shelf.Spec.SlicesInsertGrow
import Derived.Test.YtiidjkhkcckmkaaGreatDoorCnP
import Derived.Test.YtiidjkhkcckmkaaGreatDoorPaP
import Derived.Test.YtiidjkhkcckmkaaGreatDoorBasP
import Derived.Test.YtiidjkhkcckmkaaGreatDoorShelf
import Derived.Test.YtiidjkhkcckmkaaGreatDoorDeP
/- Layer 9: slices.Insert of one number into an own slice; a putter in its box of two cells. -/
namespace Go.Proofs.YtiidjkhkcckmkaaGreatDoor
set_option linter.unusedSimpArgs false
set_option linter.unusedVariables false
open Go.RowKit Go.Lib Go.Shelf
noncomputable def insRen : Go.Shelf.Ren := ⟨fun | 21 => 164 | 27 => 187 | 28 => 188 | 35 => 200 | 39 => 204 | n => n, fun | 0 => 0 | 3 => 3 | 4 => 4 | 22 => 24 | n => n, fun | n => n⟩
theorem insLays : Go.Proofs.Lays2.n21 Tryz.prog insRen := {
  mixed := by kernel_rfl
  f21 := Tryz.func164.trans (congrArg some (by kernel_rfl))
  f27 := Tryz.func187.trans (congrArg some (by kernel_rfl))
  f28 := Tryz.func188.trans (congrArg some (by kernel_rfl))
  f35 := Tryz.func200.trans (congrArg some (by kernel_rfl))
  f39 := Tryz.func204.trans (congrArg some (by kernel_rfl))
  t0 := Tryz.underlying0
  a0 := Tryz.isAgg0
  z0 := Tryz.sizeOf0
  v0 := Tryz.zeroValue0
  t3 := Tryz.underlying3
  a3 := Tryz.isAgg3
  z3 := Tryz.sizeOf3
  v3 := Tryz.zeroValue3
  t4 := Tryz.underlying4
  a4 := Tryz.isAgg4
  z4 := Tryz.sizeOf4
  v4 := Tryz.zeroValue4
  t22 := Tryz.underlying24
  a22 := Tryz.isAgg24
  z22 := Tryz.sizeOf24
  v22 := Tryz.zeroValue24
  i3 := by kernel_rfl }
theorem cells_set (g : Nat) (e : TypeId) : ∀ (vs : List Value) (o : Nat) (w : World) (cur : Array Value), w.heap[g]? = some (.cells cur e) → ∃ cur', (w.setCells g o vs).heap[g]? = some (.cells cur' e) ∧ cur'.size = cur.size
  | [], _, _, cur, h => ⟨cur, h, rfl⟩
  | v :: r, o, w, cur, h => by
    obtain ⟨c2, h2, h3⟩ := cells_set g e r (o + 1) (w.setCell ⟨g, o, none⟩ v) _ (heap_setCell_same w g o cur e v h)
    exact ⟨c2, h2, by rw [h3]; simp⟩
theorem grown_on {w w1 w2 : World} {row : Option Nat} (h1 : w.grownBy w1 row) (h2 : w1.grownBy w2 row) : w.grownBy w2 row :=
  ⟨h2.os.trans h1.os, h2.tape.trans h1.tape, h2.output.trans h1.output, Nat.le_trans h1.size h2.size, fun k hk hne => (h2.block k (Nat.lt_of_lt_of_le hk h1.size) hne).trans (h1.block k hk hne)⟩
theorem grown_set (g : Nat) : ∀ (vs : List Value) (o : Nat) (w : World), w.grownBy (w.setCells g o vs) (some g)
  | [], _, _ => ⟨rfl, rfl, rfl, Nat.le_refl _, fun _ _ _ => rfl⟩
  | v :: r, o, w => grown_on (w1 := w.setCell ⟨g, o, none⟩ v) ⟨rfl, rfl, rfl, by simp, fun k _ hk => heap_setCell_other w ⟨g, o, none⟩ k v (fun e => hk (by simp [e]))⟩ (grown_set g r (o + 1) (w.setCell ⟨g, o, none⟩ v))
theorem grown_new (w : World) (o : Obj) (vs1 vs2 : List Value) (i j : Nat) (row : Option Nat) : w.grownBy ((((w.alloc o).drew.setCells w.heap.size i vs1).drew).setCells w.heap.size j vs2) row := by
  have h1 := World.grownBy_alloc w o none
  refine ⟨?_, ?_, ?_, ?_, ?_⟩
  · exact ((grown_set w.heap.size vs2 j _).os.trans (grown_set w.heap.size vs1 i (w.alloc o).drew).os)
  · exact ((grown_set w.heap.size vs2 j _).tape.trans (grown_set w.heap.size vs1 i (w.alloc o).drew).tape)
  · exact ((grown_set w.heap.size vs2 j _).output.trans (grown_set w.heap.size vs1 i (w.alloc o).drew).output)
  · have a1 := (grown_set w.heap.size vs1 i (w.alloc o).drew).size
    have a2 := (grown_set w.heap.size vs2 j (((w.alloc o).drew.setCells w.heap.size i vs1).drew)).size
    have a3 : w.heap.size ≤ (w.alloc o).drew.heap.size := h1.size
    exact Nat.le_trans a3 (Nat.le_trans a1 a2)
  · intro k hk _
    have hne : some k ≠ some w.heap.size := fun e => by cases e; omega
    have a1 := (grown_set w.heap.size vs1 i (w.alloc o).drew)
    have a2 := (grown_set w.heap.size vs2 j (((w.alloc o).drew.setCells w.heap.size i vs1).drew))
    have hk1 : k < (w.alloc o).drew.heap.size := Nat.lt_of_lt_of_le hk h1.size
    have hk2 : k < (((w.alloc o).drew.setCells w.heap.size i vs1).drew).heap.size := Nat.lt_of_lt_of_le hk1 a1.size
    exact (a2.block k hk2 hne).trans ((a1.block k hk1 hne).trans (h1.block k hk (by simp)))
theorem own_of_block {B g cap : Nat} {l : List Int} {w : World} {cur : Array Value} (hB : B ≤ g) (hg : w.heap[g]? = some (.cells cur 3)) (hcap : cur.size = cap) (hlc : l.length ≤ cap) (hm : cap ≤ maxLen)
    (hc : ∀ j u, l[j]? = some u → w.cell? ⟨g, j, none⟩ = some (.int .i64 u)) : OwnI B (.slice (some ⟨g, 0, none⟩) l.length cap) l w := by
  refine ⟨by simp, .inr ⟨g, cap, cur, rfl, hB, hg, hlc, hm, by rw [hcap, Nat.mul_one], ?_⟩⟩
  rw [Nat.mul_one]
  refine List.ext_getElem (by simp; omega) fun j h1 h2 => ?_
  have hj : j < l.length := by simpa using h2
  have := hc j l[j] (List.getElem?_eq_getElem hj)
  simp only [World.cell?, hg, Option.isSome_none, Bool.false_eq_true, if_false] at this
  rw [Array.getElem?_eq_getElem (by omega)] at this
  simp only [List.getElem_take, Array.getElem_toList, List.getElem_map]
  exact Option.some.inj this
theorem own_new (B : Nat) (w : World) (l : List Int) (cap : Nat) (Z : Array Value) (hB : B ≤ w.heap.size) (hZ : Z.size = cap - l.length) (hlc : l.length ≤ cap) (hm : cap ≤ maxLen) :
    OwnI B (.slice (some ⟨w.heap.size, 0, none⟩) l.length cap) l (w.drew.alloc (.cells ((cellsI l).toArray ++ Z) 3)) := by
  refine ⟨by simp, .inr ⟨w.heap.size, cap, _, rfl, hB, heap_alloc_new w.drew _, hlc, hm, ?_, ?_⟩⟩
  · simp only [Array.size_append, List.size_toArray, List.length_map, hZ]
    omega
  · simp only [Array.toList_append, Nat.mul_one]
    rw [List.take_append_of_le_length (by simp)]
    exact List.take_of_length_le (by simp)
theorem addr_add (b o j : Nat) : (⟨b, o, none⟩ : Addr).add j = ⟨b, o + j, none⟩ := by unfold Addr.add; split <;> simp_all
theorem some_in {w : World} {g : Nat} {cur : Array Value} {T : TypeId} (hg : w.heap[g]? = some (.cells cur T)) (j : Nat) (hj : j < cur.size) : (w.cell? ⟨g, j, none⟩).isSome = true := by
  simp [World.cell?, hg, hj]
theorem ins_at (l : List Int) (k : Nat) (d : Int) (hk : k ≤ l.length) (j : Nat) : (l.take k ++ d :: l.drop k)[j]? = if j < k then l[j]? else if j = k then some d else l[j - 1]? := by
  rw [List.getElem?_append, List.length_take, Nat.min_eq_left hk]
  by_cases h1 : j < k
  · rw [if_pos h1, if_pos h1, List.getElem?_take, if_pos h1]
  · rw [if_neg h1, if_neg h1]
    by_cases h2 : j = k
    · rw [if_pos h2, h2, Nat.sub_self]; rfl
    · rw [if_neg h2]
      obtain ⟨m, rfl⟩ : ∃ m, j = k + m + 1 := ⟨j - k - 1, by omega⟩
      rw [show k + m + 1 - k = m + 1 by omega, List.getElem?_cons_succ, List.getElem?_drop, show k + m + 1 - 1 = k + m by omega]
theorem ins_shift {w : World} {g k : Nat} {cur : Array Value} {l : List Int} {d : Int} (hk : k ≤ l.length) (hg : w.heap[g]? = some (.cells cur 3)) (hs : l.length + 1 ≤ cur.size)
    (hp : ∀ j u, j < k → l[j]? = some u → w.cell? ⟨g, j, none⟩ = some (.int .i64 u)) :
    ∀ j u, (l.take k ++ d :: l.drop k)[j]? = some u → ((w.setCells g (k + 1) ((cellsI l).drop k)).setCells g k [.int .i64 d]).cell? ⟨g, j, none⟩ = some (.int .i64 u) := by
  intro j u hu
  have hA : ((cellsI l).drop k).length = l.length - k := by simp
  obtain ⟨c1, hc1, hz1⟩ := cells_set g 3 ((cellsI l).drop k) (k + 1) w cur hg
  rw [ins_at l k d hk] at hu
  by_cases h1 : j < k
  · rw [if_pos h1] at hu
    rw [World.cell?_setCells_out g _ _ _ _ (fun _ _ => Or.inl h1), World.cell?_setCells_out g _ _ _ _ (fun _ _ => Or.inl (Nat.lt_succ_of_lt h1))]
    exact hp j u h1 hu
  · rw [if_neg h1] at hu
    by_cases h2 : j = k
    · subst h2
      rw [if_pos rfl] at hu
      have := World.cell?_setCells_in g [.int .i64 d] j (w.setCells g (j + 1) ((cellsI l).drop j)) (fun i hi => by
        have : i = 0 := by simpa using hi
        subst this
        exact some_in hc1 _ (by omega)) 0 (by simp)
      simp only [Nat.add_zero] at this
      rw [this]
      simp only [List.getElem_cons_zero]
      rw [Option.some.inj hu]
    · rw [if_neg h2] at hu
      rw [World.cell?_setCells_out g _ _ _ _ (fun _ _ => Or.inr (by simp; omega))]
      have hjl : j - 1 < l.length := (List.getElem?_eq_some_iff.1 hu).1
      have := World.cell?_setCells_in g ((cellsI l).drop k) (k + 1) w (fun i hi => some_in hg _ (by rw [hA] at hi; omega)) (j - (k + 1)) (by rw [hA]; omega)
      rw [show k + 1 + (j - (k + 1)) = j by omega] at this
      rw [this]
      have h3 := (List.getElem?_eq_some_iff.1 hu).2
      simp only [List.getElem_drop, List.getElem_map]
      rw [← h3]
      congr 3
      omega
theorem ins_grow {w : World} {g k : Nat} {cur : Array Value} {l : List Int} {d : Int} (hk : k ≤ l.length) (hg : w.heap[g]? = some (.cells cur 3)) (hs : l.length + 1 ≤ cur.size)
    (hp : ∀ j u, j < k → l[j]? = some u → w.cell? ⟨g, j, none⟩ = some (.int .i64 u)) :
    ∀ j u, (l.take k ++ d :: l.drop k)[j]? = some u → ((w.setCells g k [.int .i64 d]).drew.setCells g (k + 1) ((cellsI l).drop k)).cell? ⟨g, j, none⟩ = some (.int .i64 u) := by
  intro j u hu
  have hA : ((cellsI l).drop k).length = l.length - k := by simp
  obtain ⟨c1, hc1, hz1⟩ := cells_set g 3 [.int .i64 d] k w cur hg
  have hc1' : (w.setCells g k [.int .i64 d]).drew.heap[g]? = some (.cells c1 3) := hc1
  rw [ins_at l k d hk] at hu
  by_cases h1 : j < k
  · rw [if_pos h1] at hu
    rw [World.cell?_setCells_out g _ _ _ _ (fun _ _ => Or.inl (Nat.lt_succ_of_lt h1))]
    show (w.setCells g k [.int .i64 d]).cell? ⟨g, j, none⟩ = _
    rw [World.cell?_setCells_out g _ _ _ _ (fun _ _ => Or.inl h1)]
    exact hp j u h1 hu
  · rw [if_neg h1] at hu
    by_cases h2 : j = k
    · subst h2
      rw [if_pos rfl] at hu
      rw [World.cell?_setCells_out g _ _ _ _ (fun _ _ => Or.inl (Nat.lt_succ_self j))]
      show (w.setCells g j [.int .i64 d]).cell? ⟨g, j, none⟩ = _
      have := World.cell?_setCells_in g [.int .i64 d] j w (fun i hi => by
        have : i = 0 := by simpa using hi
        subst this
        exact some_in hg _ (by omega)) 0 (by simp)
      simp only [Nat.add_zero] at this
      rw [this]
      simp only [List.getElem_cons_zero]
      rw [Option.some.inj hu]
    · rw [if_neg h2] at hu
      have hjl : j - 1 < l.length := (List.getElem?_eq_some_iff.1 hu).1
      have := World.cell?_setCells_in g ((cellsI l).drop k) (k + 1) (w.setCells g k [.int .i64 d]).drew (fun i hi => some_in hc1' _ (by rw [hA] at hi; omega)) (j - (k + 1)) (by rw [hA]; omega)
      rw [show k + 1 + (j - (k + 1)) = j by omega] at this
      rw [this]
      have h3 := (List.getElem?_eq_some_iff.1 hu).2
      simp only [List.getElem_drop, List.getElem_map]
      rw [← h3]
      congr 3
      omega
set_option maxHeartbeats 1600000 in
theorem insert_one (B : Nat) (v : Value) (l : List Int) (k : Nat) (d : Int) (vb : Nat) (T : TypeId) (w : World) (hk : k ≤ l.length) (hl : l.length ≤ 100000) (ho : OwnI B v l w) (hB : B ≤ w.heap.size) (hb : Blk w vb #[.int .i64 d] T) (hne : v.ownBlock ≠ some vb) :
    Calls Tryz.prog 164 #[v, .int .i64 (k : Int), .slice (some ⟨vb, 0, none⟩) 1 1] w fun e w' => ∃ v', e = .returned v' ∧ OwnI B v' (l.take k ++ d :: l.drop k) w' ∧ w.grownBy w' v.ownBlock ∧ Lies v' v w := by
  have hvs : ∀ j u, ([Value.int .i64 d] : List Value)[j]? = some u → w.cell? ⟨vb, 0 + j, none⟩ = some u := by
    intro j u hu
    cases j with
    | zero => simp only [List.getElem?_cons_zero] at hu; rw [← hu]; exact blk_cell hb 0 _ rfl
    | succ j => simp at hu
  have h1v : ∀ u ∈ ([Value.int .i64 d] : List Value), u.oneCell' = true := by intro u hu; rw [List.mem_singleton] at hu; subst hu; rfl
  have hlen : (l.take k ++ d :: l.drop k).length = l.length + 1 := by simp; omega
  have hz0 : (Value.int .i64 0).cells.size = 1 := rfl
  rcases ho.2 with ⟨rfl, h0⟩ | ⟨g, cap, cur, rfl, hBg, hg, hnc, hcm, hcs, htake⟩
  · obtain rfl : l = [] := List.eq_nil_of_length_eq_zero h0
    obtain rfl : k = 0 := by simpa using hk
    refine (Any2.slices_Insert_int_end_grow insLays none 0 0 vb 0 1 1 [] [.int .i64 d] w (by omega) (by omega) (by omega) (by omega) rfl rfl (fun _ => rfl) (fun _ h => by cases h) hvs h1v).mono ?_
    rintro e w' ⟨rfl, rfl⟩
    have hge := grownCap_ge w (0 + 1) 0 3
    exact ⟨_, rfl, own_new B w [d] (grownCap w (0 + 1) 0 3) (Builtin.zeroCells (Value.int .i64 0).cells (grownCap w (0 + 1) 0 3 - (0 + 1))) hB (by rw [size_zeroCells, hz0]; simp) (by simpa using hge) (grownCap_le_maxLen w _ _ _ (by unfold maxLen; omega)), ⟨rfl, rfl, rfl, by simp, fun j hj _ => heap_alloc_old w.drew _ hj⟩, .inr ⟨_, rfl, Nat.le_refl _⟩⟩
  · have hcell := World.ownsRow.cells (g := g) ho rfl
    have hcur : ∀ j u, (cellsI l)[j]? = some u → w.cell? ⟨g, 0 + j, none⟩ = some u := by
      intro j u hu
      have := hcell j u hu
      rwa [addr_add] at this
    have hcz : cur.size = cap := by rw [hcs, Nat.mul_one]
    have hpre : ∀ j u, l[j]? = some u → w.cell? ⟨g, j, none⟩ = some (.int .i64 u) := by
      intro j u hu
      have := hcur j (.int .i64 u) (by simp [hu])
      rwa [Nat.zero_add] at this
    have hfz : ∀ j, w.frozen? ⟨g, j, none⟩ = false := fun j => by simp [World.frozen?, hg]
    have hgb : g ≠ vb := fun e => hne (by rw [e]; rfl)
    by_cases hroom : l.length + 1 ≤ cap
    · by_cases hkn : k = l.length
      · subst hkn
        refine (Any2.slices_Insert_int_end_room insLays g 0 l.length cap vb 0 1 1 [.int .i64 d] w (by omega) hroom (by unfold maxLen at hcm; omega) rfl (fun j hj => some_in hg _ (by omega)) (fun j hj => hfz _) hvs h1v).mono ?_
        rintro e w' ⟨rfl, rfl⟩
        obtain ⟨c1, hc1, hz1⟩ := cells_set g 3 [.int .i64 d] (0 + l.length) w cur hg
        refine ⟨_, rfl, ?_, grown_set g _ _ w, .inl rfl⟩
        have := own_of_block (l := l.take l.length ++ d :: l.drop l.length) hBg hc1 (hz1.trans hcz) (by rw [hlen]; exact hroom) hcm (by
          intro j u hu
          rw [ins_at l l.length d (Nat.le_refl _)] at hu
          by_cases h1 : j < l.length
          · rw [if_pos h1] at hu
            rw [World.cell?_setCells_out g _ _ _ _ (fun _ _ => Or.inl (by show j < _; omega))]
            exact hpre j u hu
          · rw [if_neg h1] at hu
            by_cases h2 : j = l.length
            · rw [if_pos h2] at hu
              have h3 := World.cell?_setCells_in g [.int .i64 d] (0 + l.length) w (fun i hi => some_in hg _ (by simp at hi; omega)) 0 (by simp)
              rw [show 0 + l.length + 0 = j by omega] at h3
              rw [h3]
              simp only [List.getElem_cons_zero]
              rw [Option.some.inj hu]
            · rw [if_neg h2, List.getElem?_eq_none (by omega)] at hu
              cases hu)
        rw [hlen] at this
        exact this
      · have hi : k < l.length := by omega
        refine (Any2.slices_Insert_int_shift insLays g 0 l.length cap k vb 0 1 1 (cellsI l) [.int .i64 d] w hi (by omega) hroom (by unfold maxLen at hcm; omega) (fun e => hgb e.symm) (by simp) rfl hcur (fun j hj => some_in hg _ (by omega)) (fun j hj => hfz _) hvs (oneCellI l) h1v
          T 3 1 cap (by unfold Blk at hb; simp [World.shape?, hb]) (by simp [World.shape?, hg, hcz]) (by omega) (blk_thaw hb 0) (blk_thaw hb 1)).mono ?_
        rintro e w' ⟨rfl, rfl⟩
        have hg' : w.drew.heap[g]? = some (.cells cur 3) := hg
        obtain ⟨c1, hc1, hz1⟩ := cells_set g 3 ((cellsI l).drop k) (0 + (k + 1)) w.drew cur hg'
        obtain ⟨c2, hc2, hz2⟩ := cells_set g 3 [.int .i64 d] (0 + k) _ _ hc1
        refine ⟨_, rfl, ?_, grown_on (w1 := w.drew) ⟨rfl, rfl, rfl, Nat.le_refl _, fun _ _ _ => rfl⟩ (grown_on (grown_set g _ _ _) (grown_set g _ _ _)), .inl rfl⟩
        have := own_of_block (l := l.take k ++ d :: l.drop k) hBg hc2 (hz2.trans (hz1.trans hcz)) (by rw [hlen]; exact hroom) hcm (by
          rw [Nat.zero_add, Nat.zero_add]
          exact ins_shift hk hg' (by omega) (fun j u _ hu => hpre j u hu))
        rw [hlen] at this
        exact this
    · by_cases hkn : k = l.length
      · subst hkn
        refine (Any2.slices_Insert_int_end_grow insLays (some ⟨g, 0, none⟩) l.length cap vb 0 1 1 (cellsI l) [.int .i64 d] w (by omega) hnc (by omega) (by omega) (by simp) rfl (fun h => by cases h) (fun a ha j u hu => by
          cases ha
          rw [addr_add]
          exact hcur j u hu) hvs h1v).mono ?_
        rintro e w' ⟨rfl, rfl⟩
        have hge := grownCap_ge w (l.length + 1) cap 3
        have hcl : cellsI l ++ [Value.int .i64 d] = cellsI (l ++ [d]) := by simp
        rw [List.take_length, List.drop_length, hcl]
        have := own_new B w (l ++ [d]) (grownCap w (l.length + 1) cap 3) (Builtin.zeroCells (Value.int .i64 0).cells (grownCap w (l.length + 1) cap 3 - (l.length + 1))) hB (by rw [size_zeroCells, hz0]; simp) (by simpa using hge) (grownCap_le_maxLen w _ _ _ (by unfold maxLen; omega))
        rw [show (l ++ [d]).length = l.length + 1 by simp] at this
        exact ⟨_, rfl, this, ⟨rfl, rfl, rfl, by simp, fun j hj _ => heap_alloc_old w.drew _ hj⟩, .inr ⟨_, rfl, Nat.le_refl _⟩⟩
      · have hi : k < l.length := by omega
        refine (Any2.slices_Insert_int_grow insLays g 0 l.length cap k vb 0 1 1 (cellsI l) [.int .i64 d] w hi (by omega) hnc (by omega) (by omega) (by simp) rfl hcur hvs (oneCellI l) h1v).mono ?_
        rintro e w' ⟨rfl, rfl⟩
        have hge := grownCap_ge w (l.length + 1) cap 3
        simp only [show insRen.t 3 = 3 from rfl]
        refine ⟨_, rfl, ?_, grown_new w _ _ _ _ _ _, .inr ⟨_, rfl, Nat.le_refl _⟩⟩
        obtain ⟨C, hC⟩ : ∃ C, ((cellsI l).take k).toArray ++ Builtin.zeroCells (Value.int .i64 0).cells (l.length + 1 - k) ++ Builtin.zeroCells (Value.int .i64 0).cells (grownCap w (l.length + 1) cap 3 - (l.length + 1)) = C := ⟨_, rfl⟩
        have hCs : C.size = grownCap w (l.length + 1) cap 3 := by
          rw [← hC]
          simp only [Array.size_append, size_zeroCells, hz0, List.size_toArray, List.length_take, List.length_map]
          omega
        have hCk : ∀ j u, j < k → l[j]? = some u → C[j]? = some (.int .i64 u) := by
          intro j u hj hu
          rw [← hC, Array.append_assoc, Array.getElem?_append_left (by simp; omega)]
          simp [hj, hu]
        rw [hC]
        have hnew : (w.alloc (.cells C 3)).drew.heap[w.heap.size]? = some (.cells C 3) := heap_alloc_new w _
        obtain ⟨c1, hc1, hz1⟩ := cells_set w.heap.size 3 [.int .i64 d] k _ _ hnew
        obtain ⟨c2, hc2, hz2⟩ := cells_set w.heap.size 3 ((cellsI l).drop k) (k + 1) ((w.alloc (.cells C 3)).drew.setCells w.heap.size k [.int .i64 d]).drew _ hc1
        have := own_of_block (l := l.take k ++ d :: l.drop k) hB hc2 (hz2.trans (hz1.trans hCs)) (by rw [hlen]; exact hge) (grownCap_le_maxLen w _ _ _ (by unfold maxLen; omega)) (ins_grow hk hnew (by omega) (fun j u hj hu => by
          simp only [World.cell?, hnew, Option.isSome_none, Bool.false_eq_true, if_false]
          exact hCk j u hj hu))
        rw [hlen] at this
        exact this
end Go.Proofs.YtiidjkhkcckmkaaGreatDoor

/- Layer 9: the code's marks, Sane, copied, End. -/
namespace Go.Proofs.YtiidjkhkcckmkaaGreatDoor
set_option linter.unusedSimpArgs false
set_option linter.unusedVariables false
open Go.RowKit Go.Lib
namespace Nor
open Prp (mrkB cccI)
open Can
def rowI : List Int → List Int
  | [] => []
  | x :: t => if mrkB x = true then x :: t else t
theorem row_mark {x : Int} (t : List Int) (hx : mrkB x = true) : rowI (x :: t) = x :: t := if_pos hx
theorem row_not {x : Int} (t : List Int) (hx : mrkB x = false) : rowI (x :: t) = t := if_neg (by rw [hx]; simp)
theorem row_len (l : List Int) : (rowI l).length ≤ l.length := by
  cases l with
  | nil => exact Nat.le_refl _
  | cons x t =>
    cases hx : mrkB x with
    | true => rw [row_mark t hx]; exact Nat.le_refl _
    | false => rw [row_not t hx]; simp
theorem run_le (bs : List Bool) (n : Nat) : runB bs n ≤ n + bs.length := by
  induction bs generalizing n with
  | nil => simp [runB]
  | cons b t ih =>
    simp only [runB, List.length_cons]
    have := ih (if b = true then n + 1 else 0)
    cases b <;> simp at this ⊢ <;> omega
theorem run_all (bs : List Bool) (n : Nat) (h : bs.all id = true) (h0 : bs ≠ []) : runB bs n = n + bs.length := by
  induction bs generalizing n with
  | nil => exact absurd rfl h0
  | cons b t ih =>
    simp only [List.all_cons, id, Bool.and_eq_true] at h
    obtain ⟨rfl, h⟩ := h
    simp only [runB, if_true, List.length_cons]
    by_cases ht : t = []
    · subst ht; simp [runB]
    · rw [ih (n + 1) h ht]; omega
theorem run_less (bs : List Bool) (n : Nat) (h : bs.all id = false) : runB bs n < n + bs.length := by
  induction bs generalizing n with
  | nil => simp at h
  | cons b t ih =>
    cases b with
    | false =>
      have := run_le t 0
      simp only [runB, Bool.false_eq_true, if_false, List.length_cons]
      omega
    | true =>
      simp only [List.all_cons, id, Bool.true_and] at h
      have h2 := ih (n + 1) h
      have h3 : t ≠ [] := fun e => by rw [e] at h; simp at h
      have h4 := List.length_pos_iff.2 h3
      simp only [runB, if_true, List.length_cons]
      omega
theorem marks_all (l : List Int) : decide (marksI l = l.length) = l.all mrkB := by
  unfold marksI
  have he : (l.map mrkB).all id = l.all mrkB := by simp [List.all_map]
  cases h : l.all mrkB with
  | true =>
    rw [h] at he
    by_cases h0 : l = []
    · subst h0; simp [runB]
    · have := run_all (l.map mrkB) 0 he (by simpa using h0)
      rw [this]; simp
  | false =>
    rw [h] at he
    have := run_less (l.map mrkB) 0 he
    rw [List.length_map] at this
    exact decide_eq_false (by omega)
theorem sorted_head {x : Int} (t : List Int) (hx : mrkB x = false) : sortedB (x :: t) = sortedB t := by
  unfold sortedB
  rw [List.reverse_cons]
  have : ∀ R : List Int, adjR (R ++ [x]) = adjR R := by
    intro R
    induction R with
    | nil => rfl
    | cons a R ih =>
      cases R with
      | nil => simp [adjR, hx]
      | cons b R => simp only [List.cons_append, adjR] at ih ⊢; rw [ih]
  exact this _
theorem cnt_all {l : List Int} (h : l.all mrkB = true) : cntI l = l.length := cnt_marks (fun m hm => List.all_eq_true.1 h m hm)
theorem sane_row (l : List Int) : saneB l = (decide ((rowI l).length ≤ 30) && decide (marksI (rowI l) = (rowI l).length) && sortedB (rowI l)) := by
  rw [marks_all]
  cases l with
  | nil => rfl
  | cons x t =>
    unfold saneB
    cases hx : mrkB x with
    | true =>
      have hr : rowI (x :: t) = x :: t := row_mark t hx
      rw [hr, List.tail_cons, List.all_cons, hx, Bool.true_and]
      cases ht : t.all mrkB with
      | false => simp
      | true =>
        have := cnt_all (l := x :: t) (by rw [List.all_cons, hx, ht]; rfl)
        rw [this]; simp
    | false =>
      have hr : rowI (x :: t) = t := row_not t hx
      rw [hr, List.tail_cons, sorted_head t hx]
      have hc : cntI (x :: t) = cntI t := by simp [cntI, hx]
      rw [hc]
      cases ht : t.all mrkB with
      | false => simp
      | true => rw [cnt_all ht]; simp
theorem kept_row {l : List Int} (h : Kept l) : (rowI l).length = cntI l := by
  have := kept_sane h
  rw [sane_row, Bool.and_eq_true, Bool.and_eq_true, marks_all] at this
  rw [← cnt_all this.1.2]
  cases l with
  | nil => rfl
  | cons x t =>
    cases hx : mrkB x with
    | true => rw [row_mark t hx]
    | false => rw [row_not t hx]; simp [cntI, hx]
end Nor
set_option maxHeartbeats 1600000 in
set_option maxRecDepth 100000 in
theorem nmarks_any (v : Value) (l : List Int) (w : World) (hl : l.length ≤ 100000) (hv : RI w v l) : Calls Tryz.prog 78 #[v] w (Told (Nor.rowI l) w) := by
  obtain ⟨p, cap, rfl⟩ := ri_form hv
  cases l with
  | nil =>
    replace hv := Lib.hid hv
    go_enter Tryz.func78, Tryz.ntmps78
    go_wp2_with fail
    go_ret
    exact ⟨_, rfl, hv.out, Below.refl _ _⟩
  | cons x t =>
    obtain ⟨b, off, rfl, hb, hcell⟩ := ri_at hv (by simp)
    have hc : w.cell? ⟨b, off + 0, none⟩ = some (.int .i64 x) := hcell 0 (by simp)
    rw [Nat.add_zero] at hc
    have hcap := (ri_cap hv).2.1
    obtain ⟨N, hN⟩ : ∃ N, (x :: t).length = N := ⟨_, rfl⟩
    have hdr := ri_from hv 1 (by simp) (by simp)
    simp only [List.drop_one, List.tail_cons] at hdr
    rw [hN] at hdr hv hcap hl ⊢
    have h0 : 0 < (N : Int) := by simp at hN; omega
    have h1 : 1 ≤ N := by omega
    have h1' : (1 : Int) ≤ (N : Int) := by omega
    cases hmb : Prp.mrkB x with
    | true =>
      have hr : Nor.rowI (x :: t) = x :: t := Nor.row_mark t hmb
      rw [hr]
      have hmx := Lib.hid (markOf7 x true hmb)
      replace hv := Lib.hid hv
      replace hN := Lib.hid hN
      clear hmb hr hdr hcell
      go_enter Tryz.func78, Tryz.ntmps78
      go_wp2_with fail
      refine (hmx.out _).mono ?_
      rintro e w2 ⟨rfl, hb2⟩
      have hv2 := Lib.hid (ri_below hv.out hb2)
      replace hb2 := Lib.hid hb2
      go_wp2_with fail
      go_ret
      exact ⟨_, rfl, hv2.out, hb2.out⟩
    | false =>
      have hr : Nor.rowI (x :: t) = t := Nor.row_not t hmb
      rw [hr]
      have hmx := Lib.hid (markOf7 x false hmb)
      have ht : t.length = N - 1 := by simp at hN; omega
      replace hv := Lib.hid hv
      replace hN := Lib.hid hN
      by_cases hc1 : cap = 1
      · subst hc1
        obtain rfl : N = 1 := by omega
        have ht0 : t = [] := List.eq_nil_of_length_eq_zero (by omega)
        replace ht := Lib.hid ht
        replace hdr := Lib.hid hdr
        clear hmb hr hcell
        go_enter Tryz.func78, Tryz.ntmps78
        go_wp2_with fail
        refine (hmx.out _).mono ?_
        rintro e w2 ⟨rfl, hb2⟩
        replace hb2 := Lib.hid hb2
        go_wp2_with fail
        go_ret
        subst ht0
        exact ⟨_, rfl, ri_none _ _ _ (fun h => by cases h), hb2.out⟩
      · have hc2 : ¬ cap = 1 := hc1
        have hc3 : (cap == 1) = false := beq_eq_false_iff_ne.2 hc1
        replace ht := Lib.hid ht
        replace hdr := Lib.hid hdr
        clear hmb hr hcell
        go_enter Tryz.func78, Tryz.ntmps78
        go_wp2_with fail
        refine (hmx.out _).mono ?_
        rintro e w2 ⟨rfl, hb2⟩
        have hd2 := Lib.hid (ri_below hdr.out hb2)
        replace hb2 := Lib.hid hb2
        go_wp2_with fail
        go_ret
        exact ⟨_, rfl, hd2.out, hb2.out⟩
set_option maxHeartbeats 3200000 in
set_option maxRecDepth 100000 in
theorem saneC9 : SaneC9 := by
  intro v l w hl hv
  obtain ⟨p, cap, rfl⟩ := ri_form hv
  have hbox := blk_new w #[.slice p l.length cap] 36
  have hb0 := below_new w (.cells #[.slice p l.length cap] 36)
  obtain ⟨W, hW⟩ : ∃ W, w.alloc (.cells #[.slice p l.length cap] 36) = W := ⟨_, rfl⟩
  have hvW := ri_below hv hb0
  rw [hW] at hbox hb0 hvW
  rw [Nor.sane_row]
  have hmk := nmarks_any (.slice p l.length cap) l W (by omega) hvW
  have hrl := Nor.row_len l
  obtain ⟨R, hR⟩ : ∃ R, Nor.rowI l = R := ⟨_, rfl⟩
  rw [hR] at hmk hrl ⊢
  have hma := fun V (W : World) h => marks_any7 V R W (by omega) h
  have hso := fun V (W : World) h => sorted_any7 V R W (by omega) h
  obtain ⟨M, hM⟩ : ∃ M, Can.marksI R = M := ⟨_, rfl⟩
  obtain ⟨S, hS⟩ : ∃ S, Can.sortedB R = S := ⟨_, rfl⟩
  rw [hM] at hma ⊢
  rw [hS] at hso ⊢
  replace hma := Lib.hid hma
  replace hso := Lib.hid hso
  replace hmk := Lib.hid hmk
  replace hW := Lib.hid hW
  replace hb0 := Lib.hid hb0
  replace hbox := Lib.hid hbox
  replace hvW := Lib.hid hvW
  have hRl : R.length ≤ 10000 := by omega
  clear hv hM hS hR hrl
  by_cases h30 : R.length ≤ 30
  · have h30' : (R.length : Int) ≤ 30 := by omega
    by_cases hMR : M = R.length
    · have hMR' : ((M : Int) == (R.length : Int)) = true := beq_nat_int hMR
      have hres : (decide (R.length ≤ 30) && decide (M = R.length) && S) = S := by rw [decide_eq_true h30, decide_eq_true hMR]; rfl
      rw [hres]
      replace hres := Lib.hid hres
      replace hMR := Lib.hid hMR
      go_enter Tryz.func48, Tryz.ntmps48
      go_upto_region 1 with (fail)
      rw [hW.out]
      have b0 := blk_cell hbox.out 0 _ rfl
      go_wp2_with fail
      refine hmk.out.mono ?_
      rintro e w2 ⟨v2, rfl, hv2, hb2⟩
      obtain ⟨p2, c2, rfl⟩ := ri_form hv2
      replace hv2 := Lib.hid hv2
      replace hb2 := Lib.hid (hb0.out.trans (hb2.mono hb0.out.size))
      clear b0
      go_wp2_with fail
      refine (hma.out _ _ hv2.out).mono ?_
      rintro e w3 ⟨rfl, hb3⟩
      have hv3 := Lib.hid (ri_below hv2.out hb3)
      replace hb3 := Lib.hid (below_on hb2.out hb3)
      go_wp2_with fail
      refine (hso.out _ _ hv3.out).mono ?_
      rintro e w4 ⟨rfl, hb4⟩
      replace hb4 := Lib.hid (below_on hb3.out hb4)
      go_wp2_with fail
      go_ret
      exact ⟨rfl, hb4.out⟩
    · have hMR' : ((M : Int) == (R.length : Int)) = false := bne_nat_int hMR
      have hres : (decide (R.length ≤ 30) && decide (M = R.length) && S) = false := by rw [decide_eq_false hMR]; simp
      rw [hres]
      replace hres := Lib.hid hres
      replace hMR := Lib.hid hMR
      go_enter Tryz.func48, Tryz.ntmps48
      go_upto_region 1 with (fail)
      rw [hW.out]
      have b0 := blk_cell hbox.out 0 _ rfl
      go_wp2_with fail
      refine hmk.out.mono ?_
      rintro e w2 ⟨v2, rfl, hv2, hb2⟩
      obtain ⟨p2, c2, rfl⟩ := ri_form hv2
      replace hv2 := Lib.hid hv2
      replace hb2 := Lib.hid (hb0.out.trans (hb2.mono hb0.out.size))
      clear b0
      go_wp2_with fail
      refine (hma.out _ _ hv2.out).mono ?_
      rintro e w3 ⟨rfl, hb3⟩
      replace hb3 := Lib.hid (below_on hb2.out hb3)
      go_wp2_with fail
      go_ret
      exact ⟨rfl, hb3.out⟩
  · have h30' : ¬ (R.length : Int) ≤ 30 := by omega
    have h30'' : decide ((R.length : Int) ≤ 30) = false := decide_eq_false h30'
    have hres : (decide (R.length ≤ 30) && decide (M = R.length) && S) = false := by rw [decide_eq_false h30]; simp
    rw [hres]
    replace hres := Lib.hid hres
    go_enter Tryz.func48, Tryz.ntmps48
    go_upto_region 1 with (fail)
    rw [hW.out]
    have b0 := blk_cell hbox.out 0 _ rfl
    go_wp2_with fail
    refine hmk.out.mono ?_
    rintro e w2 ⟨v2, rfl, hv2, hb2⟩
    obtain ⟨p2, c2, rfl⟩ := ri_form hv2
    replace hb2 := Lib.hid (hb0.out.trans (hb2.mono hb0.out.size))
    clear b0 hv2
    go_wp2_with fail
    go_ret
    exact ⟨rfl, hb2.out⟩
theorem clone_any (v : Value) (l : List Int) (w : World) (hl : l.length ≤ 100000) (hv : RI w v l) : Calls Tryz.prog 63 #[v] w (Makes l w) := by
  rcases hv with ⟨rfl, rfl⟩ | ⟨a, cap, rfl, hcap, hc⟩
  · refine (Tryz.slices_Clone_int_nil 0 0 w).mono ?_
    rintro e w' ⟨rfl, rfl⟩
    exact ⟨_, rfl, ownI_nil _ _, Below.refl _ _⟩
  · by_cases h0 : l.length = 0
    · obtain rfl : l = [] := List.eq_nil_of_length_eq_zero h0
      refine (Tryz.slices_Clone_int_zero a cap w).mono ?_
      rintro e w' ⟨v', rfl, h1, _, h2⟩
      exact ⟨v', rfl, h1, h2⟩
    · obtain ⟨b, off, rfl, hb, hcell⟩ := hc (by omega)
      refine (Tryz.slices_Clone_int b off l.length cap l w (Nat.le_refl _) (by omega) (fun j hj => by rw [hcell j hj]; simp [List.getD, hj])).mono ?_
      rintro e w' ⟨v', rfl, h1, _, h2⟩
      rw [List.take_length] at h1
      exact ⟨v', rfl, h1, h2⟩
def wellI (l : List Int) : List Int := if Nor.saneB l = true then l else []
theorem well_kept (l : List Int) : Nor.Kept (wellI l) := by
  unfold wellI
  split
  · rename_i h; exact Nor.sane_kept h
  · exact Nor.kept_nil
theorem well_end (l : List Int) : Nor.endI l = Can.composeI (wellI l) := by
  unfold Nor.endI wellI
  split <;> rfl
set_option maxHeartbeats 3200000 in
set_option maxRecDepth 100000 in
theorem copied_any (v : Value) (l : List Int) (w : World) (hl : l.length ≤ 10000) (hv : RI w v l) : Calls Tryz.prog 92 #[.agg #[v]] w fun e w' => ∃ va, e = .returned (.agg #[va]) ∧ OwnI w.heap.size va (wellI l) w' ∧ Below w.heap.size w w' := by
  obtain ⟨p, cap, rfl⟩ := ri_form hv
  have hbox0 := blk_new w #[.slice p l.length cap] 36
  have hbox := blk_alloc hbox0 (.cells #[.slice none 0 0] 36)
  have hres := blk_new (w.alloc (.cells #[.slice p l.length cap] 36)) #[.slice none 0 0] 36
  rw [show (w.alloc (.cells #[.slice p l.length cap] 36)).heap.size = w.heap.size + 1 by simp] at hres
  have hb0 : Below w.heap.size w ((w.alloc (.cells #[.slice p l.length cap] 36)).alloc (.cells #[.slice none 0 0] 36)) := (below_new w _).alloc (by simp) _
  obtain ⟨W, hW⟩ : ∃ W, (w.alloc (.cells #[.slice p l.length cap] 36)).alloc (.cells #[.slice none 0 0] 36) = W := ⟨_, rfl⟩
  have hvW := ri_below hv hb0
  rw [hW] at hbox hres hb0 hvW
  have hsane := saneC9 (.slice p l.length cap) l W hl hvW
  unfold wellI
  replace hbox := Lib.hid hbox
  replace hres := Lib.hid hres
  replace hb0 := Lib.hid hb0
  replace hvW := Lib.hid hvW
  replace hW := Lib.hid hW
  clear hv hbox0
  cases hS : Nor.saneB l with
  | true =>
    rw [if_pos rfl]
    rw [hS] at hsane
    replace hsane := Lib.hid hsane
    clear hS
    go_enter Tryz.func92, Tryz.ntmps92
    go_upto_region 1 with (fail)
    rw [hW.out]
    have b0 := blk_cell hbox.out 0 _ rfl
    go_wp2_with fail
    refine hsane.out.mono ?_
    rintro e w2 ⟨rfl, hb2⟩
    have hbx2 := blk_below hbox.out hb2
    have c2 := blk_cell hbx2 0 _ rfl
    have hcl := Lib.hid (clone_any (.slice p l.length cap) l w2 (by omega) (ri_below hvW.out hb2))
    have hr2 := Lib.hid (blk_below hres.out hb2)
    replace hb2 := Lib.hid (hb0.out.trans (hb2.mono hb0.out.size))
    clear b0 hbx2
    go_wp2_with fail
    refine hcl.out.mono ?_
    rintro e w3 ⟨v3, rfl, ho3, hb3⟩
    have hr3 := blk_below hr2.out hb3
    have c3 := blk_cell hr3 0 _ rfl
    have f3 := blk_thaw hr3 0
    obtain ⟨p3, c3', rfl⟩ := ri_form (ri_of_own ho3)
    have hlt : w.heap.size + 1 < w2.heap.size := blk_lt hr2.out
    have hn3 := Lib.hid (blk_set (u := .slice p3 l.length c3') hr3)
    have ho4 := Lib.hid (ownI_mono (ownI_set ho3 ⟨w.heap.size + 1, 0, none⟩ (.slice p3 l.length c3') (ownI_ne ho3 hlt)) (show w.heap.size ≤ w2.heap.size by omega))
    have hb4 := Lib.hid ((below_on hb2.out hb3).setCell (p := ⟨w.heap.size + 1, 0, none⟩) (Nat.le_succ _) (.slice p3 l.length c3'))
    replace hr3 := Lib.hid hr3
    clear c2 hb3 ho3
    go_wp2_with fail
    have d4 := blk_cell hn3.out 0 _ rfl
    refine bodyPost_ret (v := .agg #[.slice p3 l.length c3']) ?_ rfl ⟨_, rfl, ho4.out, hb4.out⟩
    simp [results, Tryz.results92, go_sem, d4]
  | false =>
    rw [if_neg (by simp)]
    rw [hS] at hsane
    replace hsane := Lib.hid hsane
    clear hS
    go_enter Tryz.func92, Tryz.ntmps92
    go_upto_region 1 with (fail)
    rw [hW.out]
    have b0 := blk_cell hbox.out 0 _ rfl
    go_wp2_with fail
    refine hsane.out.mono ?_
    rintro e w2 ⟨rfl, hb2⟩
    have hr2 := blk_below hres.out hb2
    have c2 := blk_cell hr2 0 _ rfl
    have f2 := blk_thaw hr2 0
    have hn2 := Lib.hid (blk_set (u := .slice none 0 0) hr2)
    have hb4 := Lib.hid ((hb0.out.trans (hb2.mono hb0.out.size)).setCell (p := ⟨w.heap.size + 1, 0, none⟩) (Nat.le_succ _) (.slice none 0 0))
    replace hr2 := Lib.hid hr2
    clear b0 hb2
    go_wp2_with fail
    have d4 := blk_cell hn2.out 0 _ rfl
    refine bodyPost_ret (v := .agg #[.slice none 0 0]) ?_ rfl ⟨_, rfl, ownI_nil _ _, hb4.out⟩
    simp [results, Tryz.results92, go_sem, d4]
end Go.Proofs.YtiidjkhkcckmkaaGreatDoor

/- Layer 9: a putter in its box of two cells; putHead. -/
namespace Go.Proofs.YtiidjkhkcckmkaaGreatDoor
set_option linter.unusedSimpArgs false
set_option linter.unusedVariables false
open Go.RowKit Go.Lib
namespace Nor
open Prp (mrkB cccI)
open Can
theorem insR_past {r : Int} (A C : List Int) (h : ∀ x ∈ A, cccI r < cccI x) : insR r (A ++ C) = A ++ insR r C := by
  induction A with
  | nil => rfl
  | cons x t ih =>
    have hx := h x (List.mem_cons_self ..)
    have h0 := (Prp.ccc_bounds r).1
    rw [List.cons_append, insR, if_pos ⟨(mrk_iff x).2 (by omega), hx⟩, ih fun y hy => h y (List.mem_cons_of_mem _ hy)]
    rfl
theorem ins_cut {l : List Int} {d : Int} {k : Nat} (hk : k ≤ l.length) (h1 : ∀ x ∈ l.drop k, cccI d < cccI x) (h2 : ∀ h : 0 < k, ¬ cccI d < cccI (l[k - 1]'(by omega))) : insI l d = l.take k ++ d :: l.drop k := by
  unfold insI
  have e : l.reverse = (l.drop k).reverse ++ (l.take k).reverse := by rw [← List.reverse_append, List.take_append_drop]
  rw [e, insR_past _ _ (fun x hx => h1 x (List.mem_reverse.1 hx))]
  have : insR d (l.take k).reverse = d :: (l.take k).reverse := by
    cases k with
    | zero => rfl
    | succ k =>
      have h3 := h2 (by omega)
      simp only [Nat.add_sub_cancel] at h3
      have h4 : l.take (k + 1) = l.take k ++ [l[k]'(by omega)] := by rw [List.take_succ_eq_append_getElem (by omega)]
      rw [h4, List.reverse_append, List.reverse_singleton, List.singleton_append, insR, if_neg (fun h => h3 h.2)]
  rw [this]
  simp
theorem head_one9 {l : List Int} {x d : Int} (h : composeI l = [x]) (hx : mrkB x = false) : headI l d = match Par.joinI x d with | some v => ([v], []) | none => ([d], [x]) := by
  unfold headI
  rw [h]
  simp only [if_pos hx]
  cases Par.joinI x d <;> rfl
theorem head_mark9 {l : List Int} {x d : Int} (h : composeI l = [x]) (hx : mrkB x = true) : headI l d = ([d], [x]) := by
  unfold headI
  rw [h]
  simp only [hx, Bool.true_eq_false, if_false]
theorem head_more9 {l : List Int} {d : Int} (h : (composeI l).length ≠ 1) : headI l d = ([d], composeI l) := by
  unfold headI
  split
  · rename_i x e
    rw [e] at h
    simp at h
  · rfl
end Nor
theorem blk_two0 {w : World} {b : Nat} {x y u : Value} {T : TypeId} (h : Blk w b #[x, y] T) : Blk (w.setCell ⟨b, 0, none⟩ u) b #[u, y] T := by
  have := heap_setCell_same w b 0 #[x, y] T u h
  unfold Blk
  simpa using this
theorem blk_two1 {w : World} {b : Nat} {x y u : Value} {T : TypeId} (h : Blk w b #[x, y] T) : Blk (w.setCell ⟨b, 1, none⟩ u) b #[x, u] T := by
  have := heap_setCell_same w b 1 #[x, y] T u h
  unfold Blk
  simpa using this
theorem own_off {B b : Nat} {v : Value} {l : List Int} {w : World} {cs : Array Value} (h : OwnI B v l w) (hb : Blk w b cs 123) : v.ownBlock ≠ some b := by
  intro e
  rcases h.2 with ⟨rfl, _⟩ | ⟨g, cap, cur, rfl, _, hg, _⟩
  · cases e
  · cases e
    unfold Blk at hb
    rw [hb] at hg
    injection hg with hg
    injection hg with _ hg
    exact absurd hg (by decide)
theorem own_off' {B b : Nat} {v : Value} {l : List Int} {w : World} {cs : Array Value} (h : OwnI B v l w) (hb : Blk w b cs 123) : v.ownBlock = none ∨ v.ownBlock ≠ some b := .inr (own_off h hb)
structure At9 (B b : Nat) (g : Option Nat) (w0 : World) (l t : List Int) (vl vt : Value) (w : World) : Prop where
  box : Blk w b #[vl, vt] 123
  kept : OwnI B vl l w
  told : OwnI B vt t w
  base : B ≤ b
  apart : vl.ownBlock = none ∨ vl.ownBlock ≠ vt.ownBlock
  off : ∀ j, g = some j → vl.ownBlock ≠ some j ∧ vt.ownBlock ≠ some j ∧ b ≠ j ∧ j < w.heap.size
  below : Below B w0 w
  same : ∀ j, g = some j → w.heap[j]? = w0.heap[j]?
namespace At9
variable {B b : Nat} {g : Option Nat} {w0 w w1 : World} {l t c : List Int} {vl vt v1 : Value} {x : Int}
theorem size (h : At9 B b g w0 l t vl vt w) : B ≤ w.heap.size := Nat.le_of_lt (Nat.lt_of_le_of_lt h.base (blk_lt h.box))
theorem go (h : At9 B b g w0 l t vl vt w) (hb : Below w.heap.size w w1) : At9 B b g w0 l t vl vt w1 where
  box := blk_below h.box hb
  kept := ownI_below h.kept hb
  told := ownI_below h.told hb
  base := h.base
  apart := h.apart
  off := fun j hj => ⟨(h.off j hj).1, (h.off j hj).2.1, (h.off j hj).2.2.1, Nat.lt_of_lt_of_le (h.off j hj).2.2.2 hb.size⟩
  below := h.below.trans (hb.mono h.size)
  same := fun j hj => (hb.block j (h.off j hj).2.2.2).trans (h.same j hj)
theorem new (h : At9 B b g w0 l t vl vt w) (o : Obj) : At9 B b g w0 l t vl vt (w.alloc o) := h.go (below_new w o)
theorem put0 (h : At9 B b g w0 l t vl vt w) (ho : OwnI B v1 c w) (ha : v1.ownBlock = none ∨ v1.ownBlock ≠ vt.ownBlock) (hj : ∀ j, g = some j → v1.ownBlock ≠ some j) : At9 B b g w0 c t v1 vt (w.setCell ⟨b, 0, none⟩ v1) where
  box := blk_two0 h.box
  kept := ownI_set ho _ _ (own_off' ho h.box)
  told := ownI_set h.told _ _ (own_off' h.told h.box)
  base := h.base
  apart := ha
  off := fun j e => ⟨hj j e, (h.off j e).2.1, (h.off j e).2.2.1, by simpa using (h.off j e).2.2.2⟩
  below := h.below.setCell (p := ⟨b, 0, none⟩) h.base v1
  same := fun j e => (Below.heap_setCell w ⟨b, 0, none⟩ v1 j (fun e' => (h.off j e).2.2.1 e'.symm)).trans (h.same j e)
theorem one (h : At9 B b g w0 l t vl vt w) : At9 B b g w0 [x] t (.slice (some ⟨w.heap.size, 0, none⟩) 1 1) vt ((w.alloc (.cells #[.int .i64 x] 3)).setCell ⟨b, 0, none⟩ (.slice (some ⟨w.heap.size, 0, none⟩) 1 1)) := by
  refine (h.new _).put0 (ownI_lit B w [x] #[.int .i64 x] w.heap.size 1 rfl h.size rfl rfl (by unfold maxLen; omega)) (.inr fun e => ?_) (fun j e e' => ?_)
  · have := (World.ownsRow.lt h.told w.heap.size e.symm).2
    omega
  · have := (h.off j e).2.2.2
    have e2 : w.heap.size = j := by cases e'; rfl
    omega
theorem tell (h : At9 B b g w0 l t vl vt w) (ho : OwnI B v1 c w1) (hg : w.grownBy w1 vt.ownBlock) (hli : Lies v1 vt w) : At9 B b g w0 l c vl v1 (w1.setCell ⟨b, 1, none⟩ v1) := by
  have hb1 := blk_grown h.box hg (fun e => own_off h.told h.box e.symm)
  have hl1 : OwnI B vl l w1 := World.ownsRow.kept h.kept hg h.apart
  refine ⟨blk_two1 hb1, ownI_set hl1 _ _ (own_off' hl1 hb1), ownI_set ho _ _ (own_off' ho hb1), h.base, lies_apart h.kept h.apart hli, fun j e => ⟨(h.off j e).1, fun e' => ?_, (h.off j e).2.2.1, ?_⟩, (below_row h.below hg h.size h.told (Nat.le_refl _)).setCell (p := ⟨b, 1, none⟩) h.base v1, fun j e => ?_⟩
  · rcases hli with h1 | ⟨k, h1, h2⟩
    · exact (h.off j e).2.1 (h1.symm.trans e')
    · rw [h1] at e'
      cases e'
      have := (h.off j e).2.2.2
      omega
  · have := Nat.lt_of_lt_of_le (h.off j e).2.2.2 hg.size
    simpa using this
  · exact (Below.heap_setCell w1 ⟨b, 1, none⟩ v1 j (fun e' => (h.off j e).2.2.1 e'.symm)).trans ((hg.block j (h.off j e).2.2.2 (fun e' => (h.off j e).2.1 e'.symm)).trans (h.same j e))
theorem grew (h : At9 B b g w0 l t vl vt w) (ho : OwnI B v1 c w1) (hg : w.grownBy w1 vl.ownBlock) (hli : Lies v1 vl w) : At9 B b g w0 c t v1 vt (w1.setCell ⟨b, 0, none⟩ v1) := by
  have hap : vt.ownBlock = none ∨ vt.ownBlock ≠ vl.ownBlock := by
    rcases h.apart with h1 | h1
    · cases h2 : vt.ownBlock with
      | none => exact .inl rfl
      | some k => rw [h1]; exact .inr (fun e => by cases e)
    · exact .inr fun e => h1 e.symm
  have hb1 := blk_grown h.box hg (fun e => own_off h.kept h.box e.symm)
  have hl1 : OwnI B vt t w1 := World.ownsRow.kept h.told hg hap
  have hap2 : v1.ownBlock = none ∨ v1.ownBlock ≠ vt.ownBlock := by
    rcases lies_apart h.told hap hli with h1 | h1
    · cases h2 : v1.ownBlock with
      | none => exact .inl rfl
      | some k => rw [h1]; exact .inr (fun e => by cases e)
    · exact .inr fun e => h1 e.symm
  refine ⟨blk_two0 hb1, ownI_set ho _ _ (own_off' ho hb1), ownI_set hl1 _ _ (own_off' hl1 hb1), h.base, hap2, fun j e => ⟨fun e' => ?_, (h.off j e).2.1, (h.off j e).2.2.1, ?_⟩, (below_row h.below hg h.size h.kept (Nat.le_refl _)).setCell (p := ⟨b, 0, none⟩) h.base v1, fun j e => ?_⟩
  · rcases hli with h1 | ⟨k, h1, h2⟩
    · exact (h.off j e).1 (h1.symm.trans e')
    · rw [h1] at e'
      cases e'
      have := (h.off j e).2.2.2
      omega
  · have := Nat.lt_of_lt_of_le (h.off j e).2.2.2 hg.size
    simpa using this
  · exact (Below.heap_setCell w1 ⟨b, 0, none⟩ v1 j (fun e' => (h.off j e).2.2.1 e'.symm)).trans ((hg.block j (h.off j e).2.2.2 (fun e' => (h.off j e).1 e'.symm)).trans (h.same j e))
theorem since {w2 : World} {l' t' : List Int} {ul ut : Value} (h : At9 B b g w0 l t vl vt w) (k : At9 B b g w l' t' ul ut w2) : At9 B b g w0 l' t' ul ut w2 :=
  ⟨k.box, k.kept, k.told, k.base, k.apart, k.off, h.below.trans k.below, fun j e => (k.same j e).trans (h.same j e)⟩
theorem here (h : At9 B b g w0 l t vl vt w) : At9 B b g w l t vl vt w := ⟨h.box, h.kept, h.told, h.base, h.apart, h.off, Below.refl _ _, fun _ _ => rfl⟩
end At9
def Puts (B b : Nat) (g : Option Nat) (l t : List Int) (w : World) (e : Ending) (w' : World) : Prop := e = .returned (.tuple #[]) ∧ ∃ vl vt, At9 B b g w l t vl vt w'
set_option maxHeartbeats 3200000 in
set_option maxRecDepth 100000 in
theorem putHead_any (B b : Nat) (g : Option Nat) (l t : List Int) (d : Int) (vl vt : Value) (w : World) (hl : l.length ≤ 10000) (ht : t.length ≤ 10000000) (hp : At9 B b g w l t vl vt w) : Calls Tryz.prog 135 #[.pointer (some ⟨b, 0, none⟩), .int .i64 d] w (Puts B b g (Nor.headI l d).1 (t ++ (Nor.headI l d).2) w) := by
  obtain ⟨i0, hi, hz0, hz1, hz2⟩ := info_parts info_i
  obtain ⟨pl, cl, rfl⟩ := ri_form (ri_of_own hp.kept)
  obtain ⟨pt, ct, rfl⟩ := ri_form (ri_of_own hp.told)
  have hcm := Lib.hid (compose_any7 joinYes joinNot _ l w (by omega) (ri_of_own hp.kept))
  have hcl := Can.compose_le l
  have h1 := fun x => @Nor.head_one9 l x d
  have h2 := fun x => @Nor.head_mark9 l x d
  have h3 := @Nor.head_more9 l d
  obtain ⟨c, hc⟩ : ∃ c, Can.composeI l = c := ⟨_, rfl⟩
  rw [hc] at hcm hcl h1 h2 h3
  clear hc
  have b0 := blk_cell hp.box 0 _ rfl
  replace hp := Lib.hid hp
  by_cases hc1 : c.length = 1
  · obtain ⟨x, rfl⟩ : ∃ x, c = [x] := List.length_eq_one_iff.1 hc1
    clear hc1 h3
    cases hmb : Prp.mrkB x with
    | true =>
      rw [h2 x rfl hmb]
      have hmx := Lib.hid (fun W => markOf7 x true hmb W)
      clear h1 h2 hmb
      go_enter Tryz.func135, Tryz.ntmps135
      go_wp2_with fail
      refine hcm.out.mono ?_
      rintro e w1 ⟨v1, rfl, hv1, hb1⟩
      obtain ⟨p1, c1, rfl⟩ := ri_form hv1
      obtain ⟨g1, o1, rfl, hg1, hcell⟩ := ri_at hv1 (by simp)
      have c0 := hcell 0 (by simp)
      simp only [List.length_singleton, List.getElem_cons_zero, Nat.add_zero] at c0 hv1 ⊢
      replace hv1 := Lib.hid hv1
      have hq := Lib.hid (hp.out.go hb1)
      clear hcell b0 hb1
      go_wp2_with fail
      refine (hmx.out _).mono ?_
      rintro e w2 ⟨rfl, hb2⟩
      have hq2 := Lib.hid (hq.out.go hb2)
      have hs2 := Lib.hid (ri_below hv1.out hb2)
      have c2 := (hb2.cell (p := ⟨g1, o1, none⟩) hg1).trans c0
      have hb2' := Lib.hid hb2
      clear hb2 c0 hq
      have hq1 := hq2
      have hs1 := Lib.hid (ri_src hs2.out)
      have d1 := blk_cell hq1.out.box 1 _ rfl
      go_upto_region 6 with (at_builtin; refine wpList_append_src3 rfl _ _ 24 rfl B 3 i0 (.int .i64 0) 8 Tryz.underlying24 hi hz0 hz1 hz2 rfl _ _ _ rfl hq1.out.told _ _ rfl hs1.out (oneCellI _) (by rw [List.length_map]; unfold maxLen; first | omega | (simp; omega)) (by rw [List.length_map]; first | omega | (simp; omega)) hq1.out.size ?_; intro v5 w5 hown5 hgrow5 hlies5; have q5 := Lib.hid (hq1.out.tell (ownI_of_row (l := t ++ [x]) hown5 (by simp) (by simp)) hgrow5 hlies5); obtain ⟨T5, hT5⟩ : ∃ T5, t ++ [x] = T5 := ⟨_, rfl⟩; rw [hT5] at q5; replace hT5 := Lib.hid hT5; obtain ⟨p5, cp5, rfl⟩ := ri_form (ri_of_own q5.out.told); have k5 := blk_grown hq1.out.box hgrow5 (fun e => own_off hq1.out.told hq1.out.box e.symm); have e5 := blk_cell k5 1 _ rfl; have f5 := blk_thaw k5 1; clear hown5 hgrow5 hlies5 k5)
      obtain ⟨W, hW⟩ : ∃ W, w5.setCell ⟨b, 1, none⟩ (.slice p5 T5.length cp5) = W := ⟨_, rfl⟩
      rw [hW] at q5
      rw [hW]
      have q6 := q5.out.new (.cells #[.int .i64 d] 3)
      have e6 := blk_cell q6.box 0 _ rfl
      have f6 := blk_thaw q6.box 0
      replace q6 := Lib.hid q6
      clear hW e5 f5
      go_wp2_with fail
      go_end0
      have hT := hT5.out
      subst hT
      exact ⟨rfl, _, _, q5.out.one⟩
    | false =>
      have hh := h1 x rfl hmb
      have hmx := Lib.hid (fun W => markOf7 x false hmb W)
      clear h1 h2 hmb
      cases hj : Par.joinI x d with
      | none =>
        rw [hj] at hh
        rw [hh]
        have hjr := Lib.hid (joinNot x d hj)
        clear hh hj
        go_enter Tryz.func135, Tryz.ntmps135
        go_wp2_with fail
        refine hcm.out.mono ?_
        rintro e w1 ⟨v1, rfl, hv1, hb1⟩
        obtain ⟨p1, c1, rfl⟩ := ri_form hv1
        obtain ⟨g1, o1, rfl, hg1, hcell⟩ := ri_at hv1 (by simp)
        have c0 := hcell 0 (by simp)
        simp only [List.length_singleton, List.getElem_cons_zero, Nat.add_zero] at c0 hv1 ⊢
        replace hv1 := Lib.hid hv1
        have hq := Lib.hid (hp.out.go hb1)
        clear hcell b0 hb1
        go_wp2_with fail
        refine (hmx.out _).mono ?_
        rintro e w2 ⟨rfl, hb2⟩
        have hq2 := Lib.hid (hq.out.go hb2)
        have hs2 := Lib.hid (ri_below hv1.out hb2)
        have c2 := (hb2.cell (p := ⟨g1, o1, none⟩) hg1).trans c0
        have hb2' := Lib.hid hb2
        clear hb2 c0 hq
        go_wp2_with fail
        refine (hjr.out _).mono ?_
        rintro e w3 ⟨rfl, hb3⟩
        have hq1 := Lib.hid (hq2.out.go hb3)
        have hs1 := Lib.hid (ri_src (ri_below hs2.out hb3))
        have d1 := blk_cell hq1.out.box 1 _ rfl
        clear hb3 hq2 hs2 c2
        go_upto_region 6 with (at_builtin; refine wpList_append_src3 rfl _ _ 24 rfl B 3 i0 (.int .i64 0) 8 Tryz.underlying24 hi hz0 hz1 hz2 rfl _ _ _ rfl hq1.out.told _ _ rfl hs1.out (oneCellI _) (by rw [List.length_map]; unfold maxLen; first | omega | (simp; omega)) (by rw [List.length_map]; first | omega | (simp; omega)) hq1.out.size ?_; intro v5 w5 hown5 hgrow5 hlies5; have q5 := Lib.hid (hq1.out.tell (ownI_of_row (l := t ++ [x]) hown5 (by simp) (by simp)) hgrow5 hlies5); obtain ⟨T5, hT5⟩ : ∃ T5, t ++ [x] = T5 := ⟨_, rfl⟩; rw [hT5] at q5; replace hT5 := Lib.hid hT5; obtain ⟨p5, cp5, rfl⟩ := ri_form (ri_of_own q5.out.told); have k5 := blk_grown hq1.out.box hgrow5 (fun e => own_off hq1.out.told hq1.out.box e.symm); have e5 := blk_cell k5 1 _ rfl; have f5 := blk_thaw k5 1; clear hown5 hgrow5 hlies5 k5)
        obtain ⟨W, hW⟩ : ∃ W, w5.setCell ⟨b, 1, none⟩ (.slice p5 T5.length cp5) = W := ⟨_, rfl⟩
        rw [hW] at q5
        rw [hW]
        have q6 := q5.out.new (.cells #[.int .i64 d] 3)
        have e6 := blk_cell q6.box 0 _ rfl
        have f6 := blk_thaw q6.box 0
        replace q6 := Lib.hid q6
        clear hW e5 f5
        go_wp2_with fail
        go_end0
        have hT := hT5.out
        subst hT
        exact ⟨rfl, _, _, q5.out.one⟩
      | some y =>
        rw [hj] at hh
        rw [hh]
        have hjr := Lib.hid (joinYes x d y hj)
        clear hh hj
        go_enter Tryz.func135, Tryz.ntmps135
        go_wp2_with fail
        refine hcm.out.mono ?_
        rintro e w1 ⟨v1, rfl, hv1, hb1⟩
        obtain ⟨p1, c1, rfl⟩ := ri_form hv1
        obtain ⟨g1, o1, rfl, hg1, hcell⟩ := ri_at hv1 (by simp)
        have c0 := hcell 0 (by simp)
        simp only [List.length_singleton, List.getElem_cons_zero, Nat.add_zero] at c0 hv1 ⊢
        replace hv1 := Lib.hid hv1
        have hq := Lib.hid (hp.out.go hb1)
        clear hcell b0 hb1
        go_wp2_with fail
        refine (hmx.out _).mono ?_
        rintro e w2 ⟨rfl, hb2⟩
        have hq2 := Lib.hid (hq.out.go hb2)
        have hs2 := Lib.hid (ri_below hv1.out hb2)
        have c2 := (hb2.cell (p := ⟨g1, o1, none⟩) hg1).trans c0
        have hb2' := Lib.hid hb2
        clear hb2 c0 hq
        go_wp2_with fail
        refine (hjr.out _).mono ?_
        rintro e w3 ⟨rfl, hb3⟩
        have hq3 := Lib.hid (hq2.out.go hb3)
        have q6 := hq3.out.new (.cells #[.int .i64 y] 3)
        have e6 := blk_cell q6.box 0 _ rfl
        have f6 := blk_thaw q6.box 0
        replace q6 := Lib.hid q6
        clear hb3 hq2 hs2 c2
        go_wp2_with fail
        refine bodyPost_ret (results_none rfl _ _ _) rfl ?_
        rw [List.append_nil]
        exact ⟨rfl, _, _, hq3.out.one⟩
  · rw [h3 hc1]
    have hc1' : ((c.length : Int) == 1) = false := beq_eq_false_iff_ne.2 (by omega)
    clear h1 h2 h3 hc1
    go_enter Tryz.func135, Tryz.ntmps135
    go_wp2_with fail
    refine hcm.out.mono ?_
    rintro e w1 ⟨v1, rfl, hv1, hb1⟩
    obtain ⟨p1, c1, rfl⟩ := ri_form hv1
    have hq1 := Lib.hid (hp.out.go hb1)
    have hs1 := Lib.hid (ri_src hv1)
    have d1 := blk_cell hq1.out.box 1 _ rfl
    clear b0 hv1 hb1
    go_upto_region 6 with (at_builtin; refine wpList_append_src3 rfl _ _ 24 rfl B 3 i0 (.int .i64 0) 8 Tryz.underlying24 hi hz0 hz1 hz2 rfl _ _ _ rfl hq1.out.told _ _ rfl hs1.out (oneCellI _) (by rw [List.length_map]; unfold maxLen; first | omega | (simp; omega)) (by rw [List.length_map]; first | omega | (simp; omega)) hq1.out.size ?_; intro v5 w5 hown5 hgrow5 hlies5; have q5 := Lib.hid (hq1.out.tell (ownI_of_row (l := t ++ c) hown5 (by simp) (by simp)) hgrow5 hlies5); obtain ⟨T5, hT5⟩ : ∃ T5, t ++ c = T5 := ⟨_, rfl⟩; rw [hT5] at q5; replace hT5 := Lib.hid hT5; obtain ⟨p5, cp5, rfl⟩ := ri_form (ri_of_own q5.out.told); have k5 := blk_grown hq1.out.box hgrow5 (fun e => own_off hq1.out.told hq1.out.box e.symm); have e5 := blk_cell k5 1 _ rfl; have f5 := blk_thaw k5 1; clear hown5 hgrow5 hlies5 k5)
    obtain ⟨W, hW⟩ : ∃ W, w5.setCell ⟨b, 1, none⟩ (.slice p5 T5.length cp5) = W := ⟨_, rfl⟩
    rw [hW] at q5
    rw [hW]
    have q6 := q5.out.new (.cells #[.int .i64 d] 3)
    have e6 := blk_cell q6.box 0 _ rfl
    have f6 := blk_thaw q6.box 0
    replace q6 := Lib.hid q6
    clear hW e5 f5
    go_wp2_with fail
    go_end0
    have hT := hT5.out
    subst hT
    exact ⟨rfl, _, _, q5.out.one⟩
end Go.Proofs.YtiidjkhkcckmkaaGreatDoor

/- Layer 9: putMark. -/
namespace Go.Proofs.YtiidjkhkcckmkaaGreatDoor
set_option linter.unusedSimpArgs false
set_option linter.unusedVariables false
open Go.RowKit Go.Lib
set_option maxHeartbeats 12800000 in
set_option maxRecDepth 100000 in
theorem putMark_full (B b : Nat) (g : Option Nat) (l t : List Int) (d : Int) (vl vt : Value) (w : World) (hl : Nor.Kept l) (hd : Prp.mrkB d = true) (ht : t.length ≤ 10000000) (h30 : Nor.cntI l = 30) (hp : At9 B b g w l t vl vt w) : Calls Tryz.prog 134 #[.pointer (some ⟨b, 0, none⟩), .int .i64 d] w (Puts B b g (Nor.putI l d).1 (t ++ (Nor.putI l d).2) w) := by
  have hl31 := Nor.kept_len hl
  have hcnt := Nor.kept_row hl
  unfold Nor.putI
  rw [if_pos hd]
  obtain ⟨pl, cl, rfl⟩ := ri_form (ri_of_own hp.kept)
  obtain ⟨cd, hcd⟩ : ∃ cd, Prp.cccI d = cd := ⟨_, rfl⟩
  have hcc := Lib.hid (fun W => cccOf7 d cd hcd W)
  replace hcd := Lib.hid hcd
  have hmk := nmarks_any _ l w (by omega) (ri_of_own hp.kept)
  obtain ⟨R, hR⟩ : ∃ R, Nor.rowI l = R := ⟨_, rfl⟩
  rw [hR] at hmk hcnt
  replace hmk := Lib.hid hmk
  have b0 := blk_cell hp.box 0 _ rfl
  clear hR hl hd
  rw [if_pos h30]
  rw [h30] at hcnt
  have hn30 : ((R.length : Int) == 30) = true := beq_iff_eq.2 (by omega)
  have hph := Lib.hid (fun (w1 : World) (hq : At9 B b g w1 l t (.slice pl l.length cl) vt w1) => putHead_any B b g l t 847 _ _ w1 (by omega) ht hq)
  rw [Nor.head847] at hph ⊢
  obtain ⟨c, hc⟩ : ∃ c, Can.composeI l = c := ⟨_, rfl⟩
  rw [hc] at hph ⊢
  obtain ⟨L, hL⟩ : ∃ L : List Int, [847] = L := ⟨_, rfl⟩
  rw [hL] at hph ⊢
  obtain ⟨U, hU⟩ : ∃ U, Nor.insI L d = U := ⟨_, rfl⟩
  rw [hU]
  obtain ⟨T, hT⟩ : ∃ T, t ++ c = T := ⟨_, rfl⟩
  have hL1 : L.length ≤ 1 := by rw [← hL]; exact Nat.le_refl _
  replace hU := Lib.hid hU
  replace hp := Lib.hid hp
  simp only [hT] at hph ⊢
  clear hc h30 hL hT hcnt
  go_enter Tryz.func134, Tryz.ntmps134
  go_wp2_with fail
  refine hmk.out.mono ?_
  rintro e w1 ⟨v1, rfl, hv1, hb1⟩
  obtain ⟨p1, c1, rfl⟩ := ri_form hv1
  have qa := Lib.hid (hp.out.go hb1)
  clear hv1 hb1 b0
  go_wp2_with fail
  refine (hph.out _ qa.out.here).mono ?_
  rintro e w2 ⟨rfl, vL, vt, qb⟩
  obtain ⟨pL, cL, rfl⟩ := ri_form (ri_of_own qb.kept)
  have q1 := Lib.hid (qa.out.since qb)
  clear qb qa
  go_wp2_with fail
  refine (hcc.out _).mono ?_
  rintro e w3 ⟨rfl, hb3⟩
  have q3 := Lib.hid (q1.out.here.go hb3)
  have b3 := blk_cell q3.out.box 0 _ rfl
  clear hb3
  go_wp2_with fail
  go_loopg [5] L.length (fun n vk wr => n ≤ L.length ∧ vk = .int .i64 n ∧ (∀ x ∈ L.drop n, Prp.cccI d < Prp.cccI x) ∧ Below w3.heap.size w3 wr)
  case atStart => exact ⟨Nat.le_refl _, rfl, fun x hx => by simp at hx, Below.refl _ _⟩
  case round =>
    obtain ⟨hk, rfl, hpast, hbel⟩ := hrel
    have qr := Lib.hid (q3.out.go hbel)
    have br := blk_cell qr.out.box 0 _ rfl
    replace hpast := Lib.hid hpast
    cases gk with
    | zero =>
      replace hbel := Lib.hid hbel
      clear b3
      have hins := Nor.ins_cut (d := d) (Nat.zero_le L.length) hpast.out (fun h => absurd h (Nat.lt_irrefl 0))
      have q7 := Lib.hid (qr.out.new (.cells #[.int .i64 d] 3))
      have hin := Lib.hid (insert_one B (.slice pL L.length cL) L 0 d wr.heap.size 3 (wr.alloc (.cells #[.int .i64 d] 3)) (by omega) (by omega) q7.out.kept q7.out.size (blk_new wr _ _) (fun e => by have := (World.ownsRow.lt qr.out.kept _ e).2; omega))
      rw [← hins, hU.out] at hin
      replace hins := Lib.hid hins
      have b7 := blk_cell q7.out.box 0 _ rfl
      go_wp2_with fail
      refine hin.out.mono ?_
      rintro e w6 ⟨v6, rfl, ho6, hg6, hl6⟩
      obtain ⟨p6, c6, rfl⟩ := ri_form (ri_of_own ho6)
      have q6 := Lib.hid (q7.out.grew ho6 hg6 hl6)
      have k6 := blk_grown q7.out.box hg6 (fun e => own_off q7.out.kept q7.out.box e.symm)
      have e6 := blk_cell k6 0 _ rfl
      have f6 := blk_thaw k6 0
      clear ho6 hg6 hl6 k6 b7
      go_wp2_with fail
      go_end0
      exact ⟨rfl, _, _, q1.out.since (q6.out)⟩
    | succ k =>
      obtain ⟨g0, off0, hpl, hg0, hcell⟩ := ri_at (ri_of_own qr.out.kept) (by omega)
      subst hpl
      have hc := hcell k hk
      obtain ⟨x, hx⟩ : ∃ x, L[k] = x := ⟨_, rfl⟩
      rw [hx] at hc
      obtain ⟨cx, hcx⟩ : ∃ cx, Prp.cccI x = cx := ⟨_, rfl⟩
      have hxx := Lib.hid (fun W => cccOf7 x cx hcx W)
      replace hbel := Lib.hid hbel
      have hy0 := Lib.hid hx
      replace hcx := Lib.hid hcx
      clear hcell b3 hx
      by_cases hlt : cd < cx
      · go_wp2_with fail
        refine (hxx.out _).mono ?_
        rintro e w4 ⟨rfl, hb4⟩
        replace hb4 := Lib.hid (below_on hbel.out hb4)
        go_wp2_with fail
        go_roundg k
        case measure => omega
        case rel => exact ⟨by omega, by go_num, fun y hy => by
          rw [List.drop_eq_getElem_cons hk, List.mem_cons, hy0.out] at hy
          rcases hy with rfl | hy
          · rw [hcx.out, hcd.out]; exact hlt
          · exact hpast.out y hy, hb4.out⟩
      · go_wp2_with fail
        refine (hxx.out _).mono ?_
        rintro e w4 ⟨rfl, hb4⟩
        have q4 := Lib.hid (qr.out.go hb4)
        replace hb4 := Lib.hid (below_on hbel.out hb4)
        have b4 := blk_cell q4.out.box 0 _ rfl
        clear br hc
        have hins := Nor.ins_cut (d := d) hk hpast.out (fun _ => by simp only [Nat.add_sub_cancel]; rw [hy0.out, hcx.out, hcd.out]; omega)
        have q7 := Lib.hid (q4.out.new (.cells #[.int .i64 d] 3))
        have hin := Lib.hid (insert_one B (.slice (some ⟨g0, off0, none⟩) L.length cL) L (k + 1) d w4.heap.size 3 (w4.alloc (.cells #[.int .i64 d] 3)) (by omega) (by omega) q7.out.kept q7.out.size (blk_new w4 _ _) (fun e => by have := (World.ownsRow.lt q4.out.kept _ e).2; omega))
        rw [← hins, hU.out] at hin
        replace hins := Lib.hid hins
        have b7 := blk_cell q7.out.box 0 _ rfl
        go_wp2_with fail
        refine hin.out.mono ?_
        rintro e w6 ⟨v6, rfl, ho6, hg6, hl6⟩
        obtain ⟨p6, c6, rfl⟩ := ri_form (ri_of_own ho6)
        have q6 := Lib.hid (q7.out.grew ho6 hg6 hl6)
        have k6 := blk_grown q7.out.box hg6 (fun e => own_off q7.out.kept q7.out.box e.symm)
        have e6 := blk_cell k6 0 _ rfl
        have f6 := blk_thaw k6 0
        clear ho6 hg6 hl6 k6 b7
        go_wp2_with fail
        go_end0
        exact ⟨rfl, _, _, q1.out.since (q6.out)⟩
set_option maxHeartbeats 12800000 in
set_option maxRecDepth 100000 in
theorem putMark_room (B b : Nat) (g : Option Nat) (l t : List Int) (d : Int) (vl vt : Value) (w : World) (hl : Nor.Kept l) (hd : Prp.mrkB d = true) (ht : t.length ≤ 10000000) (h30 : ¬ Nor.cntI l = 30) (hp : At9 B b g w l t vl vt w) : Calls Tryz.prog 134 #[.pointer (some ⟨b, 0, none⟩), .int .i64 d] w (Puts B b g (Nor.putI l d).1 (t ++ (Nor.putI l d).2) w) := by
  have hl31 := Nor.kept_len hl
  have hcnt := Nor.kept_row hl
  unfold Nor.putI
  rw [if_pos hd]
  obtain ⟨pl, cl, rfl⟩ := ri_form (ri_of_own hp.kept)
  obtain ⟨cd, hcd⟩ : ∃ cd, Prp.cccI d = cd := ⟨_, rfl⟩
  have hcc := Lib.hid (fun W => cccOf7 d cd hcd W)
  replace hcd := Lib.hid hcd
  have hmk := nmarks_any _ l w (by omega) (ri_of_own hp.kept)
  obtain ⟨R, hR⟩ : ∃ R, Nor.rowI l = R := ⟨_, rfl⟩
  rw [hR] at hmk hcnt
  replace hmk := Lib.hid hmk
  have b0 := blk_cell hp.box 0 _ rfl
  clear hR hl hd
  rw [if_neg h30]
  have hn30 : ((R.length : Int) == 30) = false := beq_eq_false_iff_ne.2 (by omega)
  obtain ⟨U, hU⟩ : ∃ U, Nor.insI l d = U := ⟨_, rfl⟩
  rw [hU, List.append_nil]
  replace hU := Lib.hid hU
  replace hp := Lib.hid hp
  clear h30 hcnt
  go_enter Tryz.func134, Tryz.ntmps134
  go_wp2_with fail
  refine hmk.out.mono ?_
  rintro e w1 ⟨v1, rfl, hv1, hb1⟩
  obtain ⟨p1, c1, rfl⟩ := ri_form hv1
  have q1 := Lib.hid (hp.out.go hb1)
  clear hv1 hb1 b0
  go_wp2_with fail
  refine (hcc.out _).mono ?_
  rintro e w3 ⟨rfl, hb3⟩
  have q3 := Lib.hid (q1.out.here.go hb3)
  have b3 := blk_cell q3.out.box 0 _ rfl
  clear hb3
  go_wp2_with fail
  go_loopg [5] l.length (fun n vk wr => n ≤ l.length ∧ vk = .int .i64 n ∧ (∀ x ∈ l.drop n, Prp.cccI d < Prp.cccI x) ∧ Below w3.heap.size w3 wr)
  case atStart => exact ⟨Nat.le_refl _, rfl, fun x hx => by simp at hx, Below.refl _ _⟩
  case round =>
    obtain ⟨hk, rfl, hpast, hbel⟩ := hrel
    have qr := Lib.hid (q3.out.go hbel)
    have br := blk_cell qr.out.box 0 _ rfl
    replace hpast := Lib.hid hpast
    cases gk with
    | zero =>
      replace hbel := Lib.hid hbel
      clear b3
      have hins := Nor.ins_cut (d := d) (Nat.zero_le l.length) hpast.out (fun h => absurd h (Nat.lt_irrefl 0))
      have q7 := Lib.hid (qr.out.new (.cells #[.int .i64 d] 3))
      have hin := Lib.hid (insert_one B (.slice pl l.length cl) l 0 d wr.heap.size 3 (wr.alloc (.cells #[.int .i64 d] 3)) (by omega) (by omega) q7.out.kept q7.out.size (blk_new wr _ _) (fun e => by have := (World.ownsRow.lt qr.out.kept _ e).2; omega))
      rw [← hins, hU.out] at hin
      replace hins := Lib.hid hins
      have b7 := blk_cell q7.out.box 0 _ rfl
      go_wp2_with fail
      refine hin.out.mono ?_
      rintro e w6 ⟨v6, rfl, ho6, hg6, hl6⟩
      obtain ⟨p6, c6, rfl⟩ := ri_form (ri_of_own ho6)
      have q6 := Lib.hid (q7.out.grew ho6 hg6 hl6)
      have k6 := blk_grown q7.out.box hg6 (fun e => own_off q7.out.kept q7.out.box e.symm)
      have e6 := blk_cell k6 0 _ rfl
      have f6 := blk_thaw k6 0
      clear ho6 hg6 hl6 k6 b7
      go_wp2_with fail
      go_end0
      exact ⟨rfl, _, _, q1.out.since (q6.out)⟩
    | succ k =>
      obtain ⟨g0, off0, hpl, hg0, hcell⟩ := ri_at (ri_of_own qr.out.kept) (by omega)
      subst hpl
      have hc := hcell k hk
      obtain ⟨x, hx⟩ : ∃ x, l[k] = x := ⟨_, rfl⟩
      rw [hx] at hc
      obtain ⟨cx, hcx⟩ : ∃ cx, Prp.cccI x = cx := ⟨_, rfl⟩
      have hxx := Lib.hid (fun W => cccOf7 x cx hcx W)
      replace hbel := Lib.hid hbel
      have hy0 := Lib.hid hx
      replace hcx := Lib.hid hcx
      clear hcell b3 hx
      by_cases hlt : cd < cx
      · go_wp2_with fail
        refine (hxx.out _).mono ?_
        rintro e w4 ⟨rfl, hb4⟩
        replace hb4 := Lib.hid (below_on hbel.out hb4)
        go_wp2_with fail
        go_roundg k
        case measure => omega
        case rel => exact ⟨by omega, by go_num, fun y hy => by
          rw [List.drop_eq_getElem_cons hk, List.mem_cons, hy0.out] at hy
          rcases hy with rfl | hy
          · rw [hcx.out, hcd.out]; exact hlt
          · exact hpast.out y hy, hb4.out⟩
      · go_wp2_with fail
        refine (hxx.out _).mono ?_
        rintro e w4 ⟨rfl, hb4⟩
        have q4 := Lib.hid (qr.out.go hb4)
        replace hb4 := Lib.hid (below_on hbel.out hb4)
        have b4 := blk_cell q4.out.box 0 _ rfl
        clear br hc
        have hins := Nor.ins_cut (d := d) hk hpast.out (fun _ => by simp only [Nat.add_sub_cancel]; rw [hy0.out, hcx.out, hcd.out]; omega)
        have q7 := Lib.hid (q4.out.new (.cells #[.int .i64 d] 3))
        have hin := Lib.hid (insert_one B (.slice (some ⟨g0, off0, none⟩) l.length cl) l (k + 1) d w4.heap.size 3 (w4.alloc (.cells #[.int .i64 d] 3)) (by omega) (by omega) q7.out.kept q7.out.size (blk_new w4 _ _) (fun e => by have := (World.ownsRow.lt q4.out.kept _ e).2; omega))
        rw [← hins, hU.out] at hin
        replace hins := Lib.hid hins
        have b7 := blk_cell q7.out.box 0 _ rfl
        go_wp2_with fail
        refine hin.out.mono ?_
        rintro e w6 ⟨v6, rfl, ho6, hg6, hl6⟩
        obtain ⟨p6, c6, rfl⟩ := ri_form (ri_of_own ho6)
        have q6 := Lib.hid (q7.out.grew ho6 hg6 hl6)
        have k6 := blk_grown q7.out.box hg6 (fun e => own_off q7.out.kept q7.out.box e.symm)
        have e6 := blk_cell k6 0 _ rfl
        have f6 := blk_thaw k6 0
        clear ho6 hg6 hl6 k6 b7
        go_wp2_with fail
        go_end0
        exact ⟨rfl, _, _, q1.out.since (q6.out)⟩
theorem putMark_any (B b : Nat) (g : Option Nat) (l t : List Int) (d : Int) (vl vt : Value) (w : World) (hl : Nor.Kept l) (hd : Prp.mrkB d = true) (ht : t.length ≤ 10000000) (hp : At9 B b g w l t vl vt w) : Calls Tryz.prog 134 #[.pointer (some ⟨b, 0, none⟩), .int .i64 d] w (Puts B b g (Nor.putI l d).1 (t ++ (Nor.putI l d).2) w) := by
  by_cases h30 : Nor.cntI l = 30
  · exact putMark_full B b g l t d vl vt w hl hd ht h30 hp
  · exact putMark_room B b g l t d vl vt w hl hd ht h30 hp
end Go.Proofs.YtiidjkhkcckmkaaGreatDoor

/- Layer 9: feed. -/
namespace Go.Proofs.YtiidjkhkcckmkaaGreatDoor
set_option linter.unusedSimpArgs false
set_option linter.unusedVariables false
open Go.RowKit Go.Lib
theorem ri_same {w w1 : World} {v : Value} {l : List Int} (h : RI w v l) (hz : w.heap.size ≤ w1.heap.size) (hs : ∀ j, v.ownBlock = some j → w1.heap[j]? = w.heap[j]?) : RI w1 v l := by
  rcases h with h | ⟨a, c, rfl, hcap, h⟩
  · exact .inl h
  · refine .inr ⟨a, c, rfl, hcap, fun hl => ?_⟩
    obtain ⟨b, o, rfl, h1, h2⟩ := h hl
    refine ⟨b, o, rfl, Nat.lt_of_lt_of_le h1 hz, fun i hi => ?_⟩
    have h3 := h2 i hi
    unfold World.cell? at h3 ⊢
    rw [hs b rfl]
    exact h3
namespace At9
variable {B b : Nat} {g : Option Nat} {w0 w w1 : World} {l t c : List Int} {vl vt v1 : Value}
theorem named (h : At9 B b none w0 l t vl vt w) (hf : OwnI w.heap.size v1 c w1) (hb : Below w.heap.size w w1) : At9 B b v1.ownBlock w1 l t vl vt w1 := by
  have k := (h.go hb).here
  refine ⟨k.box, k.kept, k.told, k.base, k.apart, fun j e => ?_, Below.refl _ _, fun _ _ => rfl⟩
  have hj := World.ownsRow.lt hf j e
  refine ⟨fun e' => ?_, fun e' => ?_, fun e' => ?_, hj.2⟩
  · have := (World.ownsRow.lt h.kept j e').2; omega
  · have := (World.ownsRow.lt h.told j e').2; omega
  · have := blk_lt h.box; omega
theorem free (h : At9 B b g w0 l t vl vt w) : At9 B b none w0 l t vl vt w :=
  ⟨h.box, h.kept, h.told, h.base, h.apart, (fun _ e => by cases e), h.below, (fun _ e => by cases e)⟩
end At9
theorem put_head9 {l : List Int} {d : Int} (hd : Prp.mrkB d = false) : Nor.putI l d = Nor.headI l d := by
  unfold Nor.putI
  rw [hd]
  rfl
theorem run_snoc9 (l t F : List Int) (k : Nat) (hk : k < F.length) : (Nor.putI (Nor.runI l (F.take k)).1 F[k]).1 = (Nor.runI l (F.take (k + 1))).1 ∧ t ++ (Nor.runI l (F.take k)).2 ++ (Nor.putI (Nor.runI l (F.take k)).1 F[k]).2 = t ++ (Nor.runI l (F.take (k + 1))).2 := by
  rw [List.take_succ_eq_append_getElem hk, run_snoc, List.append_assoc]
  exact ⟨rfl, rfl⟩
def Ran (B b : Nat) (g : Option Nat) (l t F : List Int) (k : Nat) (w1 wr : World) : Prop := ∃ va vb, At9 B b g w1 (Nor.runI l (F.take k)).1 (t ++ (Nor.runI l (F.take k)).2) va vb wr
set_option maxHeartbeats 6400000 in
set_option maxRecDepth 100000 in
theorem pfeed_any (B b : Nat) (l t : List Int) (r : Int) (vl vt : Value) (w : World) (hl : Nor.Kept l) (ht : t.length ≤ 9000000) (hp : At9 B b none w l t vl vt w) : Calls Tryz.prog 93 #[.pointer (some ⟨b, 0, none⟩), .int .i64 r] w (Puts B b none (Nor.runI l (Dcp.fullI r)).1 (t ++ (Nor.runI l (Dcp.fullI r)).2) w) := by
  have hfl := (Dcp.full_len r).2
  have hfu := full_free r w
  obtain ⟨F, hF⟩ : ∃ F, Dcp.fullI r = F := ⟨_, rfl⟩
  rw [hF] at hfu hfl ⊢
  replace hfu := Lib.hid hfu
  replace hp := Lib.hid hp
  replace hl := Lib.hid hl
  clear hF
  go_enter Tryz.func93, Tryz.ntmps93
  go_wp2_with fail
  refine hfu.out.mono ?_
  rintro e w1 ⟨vF, rfl, hoF, hb1⟩
  have q1 := hp.out.named hoF hb1
  have hF1 := ri_of_own hoF
  obtain ⟨pF, cF, rfl⟩ := ri_form hF1
  have hbw := Lib.hid (hp.out.go hb1)
  replace q1 := Lib.hid q1
  replace hF1 := Lib.hid hF1
  clear hoF hb1
  go_wp2_with fail
  go_loopg [9] F.length (fun n vk wr => ∃ k : Nat, k ≤ F.length ∧ vk = .int .i64 k ∧ n = F.length - k ∧ Ran B b (Value.slice pF F.length cF).ownBlock l t F k w1 wr)
  case atStart => exact ⟨0, Nat.zero_le _, rfl, rfl, vl, vt, by simpa [Nor.runI] using q1.out⟩
  case round =>
    obtain ⟨k, hk, rfl, rfl, va, vb, q⟩ := hrel
    by_cases hlt : k < F.length
    · have hlt' : (k : Int) < (F.length : Int) := by omega
      obtain ⟨x, hx⟩ : ∃ x, F[k] = x := ⟨_, rfl⟩
      obtain ⟨bF, oF, rfl, _, hcell⟩ := ri_at (ri_same hF1.out q.below.size q.same) (by omega)
      have hc := hcell k hlt
      rw [hx] at hc
      have hsn := run_snoc9 l t F k hlt
      rw [hx] at hsn
      have hkr := Nor.kept_run hl.out (F.take k)
      have hrt := Nor.run_told hl.out (F.take k)
      rw [List.length_take] at hrt
      obtain ⟨L, hL⟩ : ∃ L, (Nor.runI l (F.take k)).1 = L := ⟨_, rfl⟩
      obtain ⟨O, hO⟩ : ∃ O, (Nor.runI l (F.take k)).2 = O := ⟨_, rfl⟩
      rw [hL] at q hsn hkr
      rw [hO] at q hsn hrt
      obtain ⟨T, hT⟩ : ∃ T, t ++ O = T := ⟨_, rfl⟩
      have hTl : T.length ≤ 10000000 := by rw [← hT, List.length_append]; omega
      rw [hT] at q hsn
      have hll := Nor.kept_len hkr
      replace hsn := Lib.hid hsn
      replace hkr := Lib.hid hkr
      replace q := Lib.hid q
      clear hcell hL hO hT hx hrt
      cases hmb : Prp.mrkB x with
      | true =>
        have hmx := Lib.hid (fun W => markOf7 x true hmb W)
        replace hmb := Lib.hid hmb
        go_wp2_with fail
        refine (hmx.out _).mono ?_
        rintro e w4 ⟨rfl, hb4⟩
        have q4 := Lib.hid (q.out.go hb4)
        have hput := Lib.hid (putMark_any B b _ L T x _ _ _ hkr.out hmb.out hTl q4.out.here)
        clear hb4 hc
        go_wp2_with fail
        refine hput.out.mono ?_
        rintro e w5 ⟨rfl, vc, vd, q5⟩
        have q6 := Lib.hid (q4.out.since q5)
        clear q5
        go_wp2_with fail
        go_roundg (F.length - (k + 1))
        case measure => omega
        case rel => exact ⟨k + 1, by omega, by go_num, rfl, vc, vd, by have h6 := q6.out; rw [hsn.out.1, hsn.out.2] at h6; exact h6⟩
      | false =>
        have hmx := Lib.hid (fun W => markOf7 x false hmb W)
        have hph := fun (W : World) (h : At9 B b (Value.slice (some ⟨bF, oF, none⟩) F.length cF).ownBlock W L T va vb W) => putHead_any B b _ L T x va vb W (by omega) hTl h
        rw [← put_head9 (l := L) hmb] at hph
        replace hph := Lib.hid hph
        replace hmb := Lib.hid hmb
        go_wp2_with fail
        refine (hmx.out _).mono ?_
        rintro e w4 ⟨rfl, hb4⟩
        have q4 := Lib.hid (q.out.go hb4)
        have hput := Lib.hid (hph.out _ q4.out.here)
        clear hb4 hc
        go_wp2_with fail
        refine hput.out.mono ?_
        rintro e w5 ⟨rfl, vc, vd, q5⟩
        have q6 := Lib.hid (q4.out.since q5)
        clear q5
        go_wp2_with fail
        go_roundg (F.length - (k + 1))
        case measure => omega
        case rel => exact ⟨k + 1, by omega, by go_num, rfl, vc, vd, by have h6 := q6.out; rw [hsn.out.1, hsn.out.2] at h6; exact h6⟩
    · obtain rfl : k = F.length := by omega
      have hlt' : decide ((F.length : Int) < (F.length : Int)) = false := by simp
      have q9 := Lib.hid q
      clear q
      go_wp2_with fail
      go_end0
      have q8 := hbw.out.since q9.out.free
      rw [List.take_length] at q8
      exact ⟨rfl, _, _, q8⟩
end Go.Proofs.YtiidjkhkcckmkaaGreatDoor

