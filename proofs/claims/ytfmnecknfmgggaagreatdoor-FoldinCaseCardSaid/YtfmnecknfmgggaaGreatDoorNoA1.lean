/- Layer 9: slices.Insert of one number into an own slice; a putter in its box of two cells. -/
import Derived.Test.YtfmnecknfmgggaaGreatDoorNoB
import Derived.Test.YtfmnecknfmgggaaGreatDoorK7
import Derived.Test.YtfmnecknfmgggaaGreatDoorNoS
import Derived.Shelf.Spec.SlicesInsert
import Derived.Shelf.Spec.SlicesInsertGrow
namespace Go.Proofs.YtfmnecknfmgggaaGreatDoor
set_option linter.unusedSimpArgs false
set_option linter.unusedVariables false
open Go.RowKit Go.Lib Go.Shelf

noncomputable def insRen : Go.Shelf.Ren := ⟨fun | 21 => 84 | 27 => 98 | 28 => 99 | 35 => 109 | 39 => 116 | n => n, fun | 0 => 0 | 3 => 3 | 4 => 4 | 22 => 22 | n => n, fun | n => n⟩
theorem insLays : Go.Proofs.Lays2.n21 Tryz.prog insRen := {
  mixed := by kernel_rfl
  f21 := Tryz.func84.trans (congrArg some (by kernel_rfl))
  f27 := Tryz.func98.trans (congrArg some (by kernel_rfl))
  f28 := Tryz.func99.trans (congrArg some (by kernel_rfl))
  f35 := Tryz.func109.trans (congrArg some (by kernel_rfl))
  f39 := Tryz.func116.trans (congrArg some (by kernel_rfl))
  t0 := Tryz.underlying0
  a0 := Tryz.isAgg0
  z0 := Tryz.sizeOf0
  v0 := Tryz.zeroValue0
  t3 := Tryz.underlying3
  a3 := Tryz.isAgg3
  z3 := Tryz.sizeOf3
  v3 := Tryz.zeroValue3
  t4 := Tryz.underlying4
  a4 := Tryz.isAgg4
  z4 := Tryz.sizeOf4
  v4 := Tryz.zeroValue4
  t22 := Tryz.underlying22
  a22 := Tryz.isAgg22
  z22 := Tryz.sizeOf22
  v22 := Tryz.zeroValue22
  i3 := by kernel_rfl }

theorem cells_set (g : Nat) (e : TypeId) : ∀ (vs : List Value) (o : Nat) (w : World) (cur : Array Value), w.heap[g]? = some (.cells cur e) → ∃ cur', (w.setCells g o vs).heap[g]? = some (.cells cur' e) ∧ cur'.size = cur.size
  | [], _, _, cur, h => ⟨cur, h, rfl⟩
  | v :: r, o, w, cur, h => by
    obtain ⟨c2, h2, h3⟩ := cells_set g e r (o + 1) (w.setCell ⟨g, o, none⟩ v) _ (heap_setCell_same w g o cur e v h)
    exact ⟨c2, h2, by rw [h3]; simp⟩

theorem grown_on {w w1 w2 : World} {row : Option Nat} (h1 : w.grownBy w1 row) (h2 : w1.grownBy w2 row) : w.grownBy w2 row :=
  ⟨h2.os.trans h1.os, h2.tape.trans h1.tape, h2.output.trans h1.output, Nat.le_trans h1.size h2.size, fun k hk hne => (h2.block k (Nat.lt_of_lt_of_le hk h1.size) hne).trans (h1.block k hk hne)⟩

theorem grown_set (g : Nat) : ∀ (vs : List Value) (o : Nat) (w : World), w.grownBy (w.setCells g o vs) (some g)
  | [], _, _ => ⟨rfl, rfl, rfl, Nat.le_refl _, fun _ _ _ => rfl⟩
  | v :: r, o, w => grown_on (w1 := w.setCell ⟨g, o, none⟩ v) ⟨rfl, rfl, rfl, by simp, fun k _ hk => heap_setCell_other w ⟨g, o, none⟩ k v (fun e => hk (by simp [e]))⟩ (grown_set g r (o + 1) (w.setCell ⟨g, o, none⟩ v))

theorem grown_drew {w w1 : World} {row : Option Nat} (h : w.grownBy w1 row) : w.grownBy w1.drew row := ⟨h.os, h.tape, h.output, h.size, h.block⟩

/-- written into what is new only -/
theorem grown_new (w : World) (o : Obj) (vs1 vs2 : List Value) (i j : Nat) (row : Option Nat) : w.grownBy ((((w.alloc o).drew.setCells w.heap.size i vs1).drew).setCells w.heap.size j vs2) row := by
  have h1 := World.grownBy_alloc w o none
  refine ⟨?_, ?_, ?_, ?_, ?_⟩
  · exact ((grown_set w.heap.size vs2 j _).os.trans (grown_set w.heap.size vs1 i (w.alloc o).drew).os)
  · exact ((grown_set w.heap.size vs2 j _).tape.trans (grown_set w.heap.size vs1 i (w.alloc o).drew).tape)
  · exact ((grown_set w.heap.size vs2 j _).output.trans (grown_set w.heap.size vs1 i (w.alloc o).drew).output)
  · have a1 := (grown_set w.heap.size vs1 i (w.alloc o).drew).size
    have a2 := (grown_set w.heap.size vs2 j (((w.alloc o).drew.setCells w.heap.size i vs1).drew)).size
    have a3 : w.heap.size ≤ (w.alloc o).drew.heap.size := h1.size
    exact Nat.le_trans a3 (Nat.le_trans a1 a2)
  · intro k hk _
    have hne : some k ≠ some w.heap.size := fun e => by cases e; omega
    have a1 := (grown_set w.heap.size vs1 i (w.alloc o).drew)
    have a2 := (grown_set w.heap.size vs2 j (((w.alloc o).drew.setCells w.heap.size i vs1).drew))
    have hk1 : k < (w.alloc o).drew.heap.size := Nat.lt_of_lt_of_le hk h1.size
    have hk2 : k < (((w.alloc o).drew.setCells w.heap.size i vs1).drew).heap.size := Nat.lt_of_lt_of_le hk1 a1.size
    exact (a2.block k hk2 hne).trans ((a1.block k hk1 hne).trans (h1.block k hk (by simp)))

theorem own_of_block {B g cap : Nat} {l : List Int} {w : World} {cur : Array Value} (hB : B ≤ g) (hg : w.heap[g]? = some (.cells cur 3)) (hcap : cur.size = cap) (hlc : l.length ≤ cap) (hm : cap ≤ maxLen)
    (hc : ∀ j u, l[j]? = some u → w.cell? ⟨g, j, none⟩ = some (.int .i64 u)) : OwnI B (.slice (some ⟨g, 0, none⟩) l.length cap) l w := by
  refine ⟨by simp, .inr ⟨g, cap, cur, rfl, hB, hg, hlc, hm, by rw [hcap, Nat.mul_one], ?_⟩⟩
  rw [Nat.mul_one]
  refine List.ext_getElem (by simp; omega) fun j h1 h2 => ?_
  have hj : j < l.length := by simpa using h2
  have := hc j l[j] (List.getElem?_eq_getElem hj)
  simp only [World.cell?, hg, Option.isSome_none, Bool.false_eq_true, if_false] at this
  rw [Array.getElem?_eq_getElem (by omega)] at this
  simp only [List.getElem_take, Array.getElem_toList, List.getElem_map]
  exact Option.some.inj this

theorem own_new (B : Nat) (w : World) (l : List Int) (cap : Nat) (Z : Array Value) (hB : B ≤ w.heap.size) (hZ : Z.size = cap - l.length) (hlc : l.length ≤ cap) (hm : cap ≤ maxLen) :
    OwnI B (.slice (some ⟨w.heap.size, 0, none⟩) l.length cap) l (w.drew.alloc (.cells ((cellsI l).toArray ++ Z) 3)) := by
  refine ⟨by simp, .inr ⟨w.heap.size, cap, _, rfl, hB, heap_alloc_new w.drew _, hlc, hm, ?_, ?_⟩⟩
  · simp only [Array.size_append, List.size_toArray, List.length_map, hZ]
    omega
  · simp only [Array.toList_append, Nat.mul_one]
    rw [List.take_append_of_le_length (by simp)]
    exact List.take_of_length_le (by simp)

theorem addr_add (b o j : Nat) : (⟨b, o, none⟩ : Addr).add j = ⟨b, o + j, none⟩ := by unfold Addr.add; split <;> simp_all

theorem some_in {w : World} {g : Nat} {cur : Array Value} {T : TypeId} (hg : w.heap[g]? = some (.cells cur T)) (j : Nat) (hj : j < cur.size) : (w.cell? ⟨g, j, none⟩).isSome = true := by
  simp [World.cell?, hg, hj]

theorem ins_at (l : List Int) (k : Nat) (d : Int) (hk : k ≤ l.length) (j : Nat) : (l.take k ++ d :: l.drop k)[j]? = if j < k then l[j]? else if j = k then some d else l[j - 1]? := by
  rw [List.getElem?_append, List.length_take, Nat.min_eq_left hk]
  by_cases h1 : j < k
  · rw [if_pos h1, if_pos h1, List.getElem?_take, if_pos h1]
  · rw [if_neg h1, if_neg h1]
    by_cases h2 : j = k
    · rw [if_pos h2, h2, Nat.sub_self]; rfl
    · rw [if_neg h2]
      obtain ⟨m, rfl⟩ : ∃ m, j = k + m + 1 := ⟨j - k - 1, by omega⟩
      rw [show k + m + 1 - k = m + 1 by omega, List.getElem?_cons_succ, List.getElem?_drop, show k + m + 1 - 1 = k + m by omega]

/-- first what stands behind, then the new one -/
theorem ins_shift {w : World} {g k : Nat} {cur : Array Value} {l : List Int} {d : Int} (hk : k ≤ l.length) (hg : w.heap[g]? = some (.cells cur 3)) (hs : l.length + 1 ≤ cur.size)
    (hp : ∀ j u, j < k → l[j]? = some u → w.cell? ⟨g, j, none⟩ = some (.int .i64 u)) :
    ∀ j u, (l.take k ++ d :: l.drop k)[j]? = some u → ((w.setCells g (k + 1) ((cellsI l).drop k)).setCells g k [.int .i64 d]).cell? ⟨g, j, none⟩ = some (.int .i64 u) := by
  intro j u hu
  have hA : ((cellsI l).drop k).length = l.length - k := by simp
  obtain ⟨c1, hc1, hz1⟩ := cells_set g 3 ((cellsI l).drop k) (k + 1) w cur hg
  rw [ins_at l k d hk] at hu
  by_cases h1 : j < k
  · rw [if_pos h1] at hu
    rw [World.cell?_setCells_out g _ _ _ _ (fun _ _ => Or.inl h1), World.cell?_setCells_out g _ _ _ _ (fun _ _ => Or.inl (Nat.lt_succ_of_lt h1))]
    exact hp j u h1 hu
  · rw [if_neg h1] at hu
    by_cases h2 : j = k
    · subst h2
      rw [if_pos rfl] at hu
      have := World.cell?_setCells_in g [.int .i64 d] j (w.setCells g (j + 1) ((cellsI l).drop j)) (fun i hi => by
        have : i = 0 := by simpa using hi
        subst this
        exact some_in hc1 _ (by omega)) 0 (by simp)
      simp only [Nat.add_zero] at this
      rw [this]
      simp only [List.getElem_cons_zero]
      rw [Option.some.inj hu]
    · rw [if_neg h2] at hu
      rw [World.cell?_setCells_out g _ _ _ _ (fun _ _ => Or.inr (by simp; omega))]
      have hjl : j - 1 < l.length := (List.getElem?_eq_some_iff.1 hu).1
      have := World.cell?_setCells_in g ((cellsI l).drop k) (k + 1) w (fun i hi => some_in hg _ (by rw [hA] at hi; omega)) (j - (k + 1)) (by rw [hA]; omega)
      rw [show k + 1 + (j - (k + 1)) = j by omega] at this
      rw [this]
      have h3 := (List.getElem?_eq_some_iff.1 hu).2
      simp only [List.getElem_drop, List.getElem_map]
      rw [← h3]
      congr 3
      omega

/-- first the new one, then what stands behind -/
theorem ins_grow {w : World} {g k : Nat} {cur : Array Value} {l : List Int} {d : Int} (hk : k ≤ l.length) (hg : w.heap[g]? = some (.cells cur 3)) (hs : l.length + 1 ≤ cur.size)
    (hp : ∀ j u, j < k → l[j]? = some u → w.cell? ⟨g, j, none⟩ = some (.int .i64 u)) :
    ∀ j u, (l.take k ++ d :: l.drop k)[j]? = some u → ((w.setCells g k [.int .i64 d]).drew.setCells g (k + 1) ((cellsI l).drop k)).cell? ⟨g, j, none⟩ = some (.int .i64 u) := by
  intro j u hu
  have hA : ((cellsI l).drop k).length = l.length - k := by simp
  obtain ⟨c1, hc1, hz1⟩ := cells_set g 3 [.int .i64 d] k w cur hg
  have hc1' : (w.setCells g k [.int .i64 d]).drew.heap[g]? = some (.cells c1 3) := hc1
  rw [ins_at l k d hk] at hu
  by_cases h1 : j < k
  · rw [if_pos h1] at hu
    rw [World.cell?_setCells_out g _ _ _ _ (fun _ _ => Or.inl (Nat.lt_succ_of_lt h1))]
    show (w.setCells g k [.int .i64 d]).cell? ⟨g, j, none⟩ = _
    rw [World.cell?_setCells_out g _ _ _ _ (fun _ _ => Or.inl h1)]
    exact hp j u h1 hu
  · rw [if_neg h1] at hu
    by_cases h2 : j = k
    · subst h2
      rw [if_pos rfl] at hu
      rw [World.cell?_setCells_out g _ _ _ _ (fun _ _ => Or.inl (Nat.lt_succ_self j))]
      show (w.setCells g j [.int .i64 d]).cell? ⟨g, j, none⟩ = _
      have := World.cell?_setCells_in g [.int .i64 d] j w (fun i hi => by
        have : i = 0 := by simpa using hi
        subst this
        exact some_in hg _ (by omega)) 0 (by simp)
      simp only [Nat.add_zero] at this
      rw [this]
      simp only [List.getElem_cons_zero]
      rw [Option.some.inj hu]
    · rw [if_neg h2] at hu
      have hjl : j - 1 < l.length := (List.getElem?_eq_some_iff.1 hu).1
      have := World.cell?_setCells_in g ((cellsI l).drop k) (k + 1) (w.setCells g k [.int .i64 d]).drew (fun i hi => some_in hc1' _ (by rw [hA] at hi; omega)) (j - (k + 1)) (by rw [hA]; omega)
      rw [show k + 1 + (j - (k + 1)) = j by omega] at this
      rw [this]
      have h3 := (List.getElem?_eq_some_iff.1 hu).2
      simp only [List.getElem_drop, List.getElem_map]
      rw [← h3]
      congr 3
      omega

set_option maxHeartbeats 1600000 in
/-- slices.Insert(s, k, d), s an own slice, d in a block of its own -/
theorem insert_one (B : Nat) (v : Value) (l : List Int) (k : Nat) (d : Int) (vb : Nat) (T : TypeId) (w : World) (hk : k ≤ l.length) (hl : l.length ≤ 100000) (ho : OwnI B v l w) (hB : B ≤ w.heap.size) (hb : Blk w vb #[.int .i64 d] T) (hne : v.ownBlock ≠ some vb) :
    Calls Tryz.prog 84 #[v, .int .i64 (k : Int), .slice (some ⟨vb, 0, none⟩) 1 1] w fun e w' => ∃ v', e = .returned v' ∧ OwnI B v' (l.take k ++ d :: l.drop k) w' ∧ w.grownBy w' v.ownBlock ∧ Lies v' v w := by
  have hvs : ∀ j u, ([Value.int .i64 d] : List Value)[j]? = some u → w.cell? ⟨vb, 0 + j, none⟩ = some u := by
    intro j u hu
    cases j with
    | zero => simp only [List.getElem?_cons_zero] at hu; rw [← hu]; exact blk_cell hb 0 _ rfl
    | succ j => simp at hu
  have h1v : ∀ u ∈ ([Value.int .i64 d] : List Value), u.oneCell' = true := by intro u hu; rw [List.mem_singleton] at hu; subst hu; rfl
  have hlen : (l.take k ++ d :: l.drop k).length = l.length + 1 := by simp; omega
  have hz0 : (Value.int .i64 0).cells.size = 1 := rfl
  rcases ho.2 with ⟨rfl, h0⟩ | ⟨g, cap, cur, rfl, hBg, hg, hnc, hcm, hcs, htake⟩
  · obtain rfl : l = [] := List.eq_nil_of_length_eq_zero h0
    obtain rfl : k = 0 := by simpa using hk
    refine (Any2.slices_Insert_int_end_grow insLays none 0 0 vb 0 1 1 [] [.int .i64 d] w (by omega) (by omega) (by omega) (by omega) rfl rfl (fun _ => rfl) (fun _ h => by cases h) hvs h1v).mono ?_
    rintro e w' ⟨rfl, rfl⟩
    have hge := grownCap_ge w (0 + 1) 0 3
    exact ⟨_, rfl, own_new B w [d] (grownCap w (0 + 1) 0 3) (Builtin.zeroCells (Value.int .i64 0).cells (grownCap w (0 + 1) 0 3 - (0 + 1))) hB (by rw [size_zeroCells, hz0]; simp) (by simpa using hge) (grownCap_le_maxLen w _ _ _ (by unfold maxLen; omega)), ⟨rfl, rfl, rfl, by simp, fun j hj _ => heap_alloc_old w.drew _ hj⟩, .inr ⟨_, rfl, Nat.le_refl _⟩⟩
  · have hcell := World.ownsRow.cells (g := g) ho rfl
    have hcur : ∀ j u, (cellsI l)[j]? = some u → w.cell? ⟨g, 0 + j, none⟩ = some u := by
      intro j u hu
      have := hcell j u hu
      rwa [addr_add] at this
    have hcz : cur.size = cap := by rw [hcs, Nat.mul_one]
    have hpre : ∀ j u, l[j]? = some u → w.cell? ⟨g, j, none⟩ = some (.int .i64 u) := by
      intro j u hu
      have := hcur j (.int .i64 u) (by simp [hu])
      rwa [Nat.zero_add] at this
    have hfz : ∀ j, w.frozen? ⟨g, j, none⟩ = false := fun j => by simp [World.frozen?, hg]
    have hgb : g ≠ vb := fun e => hne (by rw [e]; rfl)
    by_cases hroom : l.length + 1 ≤ cap
    · by_cases hkn : k = l.length
      · subst hkn
        refine (Any2.slices_Insert_int_end_room insLays g 0 l.length cap vb 0 1 1 [.int .i64 d] w (by omega) hroom (by unfold maxLen at hcm; omega) rfl (fun j hj => some_in hg _ (by omega)) (fun j hj => hfz _) hvs h1v).mono ?_
        rintro e w' ⟨rfl, rfl⟩
        obtain ⟨c1, hc1, hz1⟩ := cells_set g 3 [.int .i64 d] (0 + l.length) w cur hg
        refine ⟨_, rfl, ?_, grown_set g _ _ w, .inl rfl⟩
        have := own_of_block (l := l.take l.length ++ d :: l.drop l.length) hBg hc1 (hz1.trans hcz) (by rw [hlen]; exact hroom) hcm (by
          intro j u hu
          rw [ins_at l l.length d (Nat.le_refl _)] at hu
          by_cases h1 : j < l.length
          · rw [if_pos h1] at hu
            rw [World.cell?_setCells_out g _ _ _ _ (fun _ _ => Or.inl (by show j < _; omega))]
            exact hpre j u hu
          · rw [if_neg h1] at hu
            by_cases h2 : j = l.length
            · rw [if_pos h2] at hu
              have h3 := World.cell?_setCells_in g [.int .i64 d] (0 + l.length) w (fun i hi => some_in hg _ (by simp at hi; omega)) 0 (by simp)
              rw [show 0 + l.length + 0 = j by omega] at h3
              rw [h3]
              simp only [List.getElem_cons_zero]
              rw [Option.some.inj hu]
            · rw [if_neg h2, List.getElem?_eq_none (by omega)] at hu
              cases hu)
        rw [hlen] at this
        exact this
      · have hi : k < l.length := by omega
        refine (Any2.slices_Insert_int_shift insLays g 0 l.length cap k vb 0 1 1 (cellsI l) [.int .i64 d] w hi (by omega) hroom (by unfold maxLen at hcm; omega) (fun e => hgb e.symm) (by simp) rfl hcur (fun j hj => some_in hg _ (by omega)) (fun j hj => hfz _) hvs (oneCellI l) h1v
          T 3 1 cap (by unfold Blk at hb; simp [World.shape?, hb]) (by simp [World.shape?, hg, hcz]) (by omega) (blk_thaw hb 0) (blk_thaw hb 1)).mono ?_
        rintro e w' ⟨rfl, rfl⟩
        have hg' : w.drew.heap[g]? = some (.cells cur 3) := hg
        obtain ⟨c1, hc1, hz1⟩ := cells_set g 3 ((cellsI l).drop k) (0 + (k + 1)) w.drew cur hg'
        obtain ⟨c2, hc2, hz2⟩ := cells_set g 3 [.int .i64 d] (0 + k) _ _ hc1
        refine ⟨_, rfl, ?_, grown_on (w1 := w.drew) ⟨rfl, rfl, rfl, Nat.le_refl _, fun _ _ _ => rfl⟩ (grown_on (grown_set g _ _ _) (grown_set g _ _ _)), .inl rfl⟩
        have := own_of_block (l := l.take k ++ d :: l.drop k) hBg hc2 (hz2.trans (hz1.trans hcz)) (by rw [hlen]; exact hroom) hcm (by
          rw [Nat.zero_add, Nat.zero_add]
          exact ins_shift hk hg' (by omega) (fun j u _ hu => hpre j u hu))
        rw [hlen] at this
        exact this
    · by_cases hkn : k = l.length
      · subst hkn
        refine (Any2.slices_Insert_int_end_grow insLays (some ⟨g, 0, none⟩) l.length cap vb 0 1 1 (cellsI l) [.int .i64 d] w (by omega) hnc (by omega) (by omega) (by simp) rfl (fun h => by cases h) (fun a ha j u hu => by
          cases ha
          rw [addr_add]
          exact hcur j u hu) hvs h1v).mono ?_
        rintro e w' ⟨rfl, rfl⟩
        have hge := grownCap_ge w (l.length + 1) cap 3
        have hcl : cellsI l ++ [Value.int .i64 d] = cellsI (l ++ [d]) := by simp
        rw [List.take_length, List.drop_length, hcl]
        have := own_new B w (l ++ [d]) (grownCap w (l.length + 1) cap 3) (Builtin.zeroCells (Value.int .i64 0).cells (grownCap w (l.length + 1) cap 3 - (l.length + 1))) hB (by rw [size_zeroCells, hz0]; simp) (by simpa using hge) (grownCap_le_maxLen w _ _ _ (by unfold maxLen; omega))
        rw [show (l ++ [d]).length = l.length + 1 by simp] at this
        exact ⟨_, rfl, this, ⟨rfl, rfl, rfl, by simp, fun j hj _ => heap_alloc_old w.drew _ hj⟩, .inr ⟨_, rfl, Nat.le_refl _⟩⟩
      · have hi : k < l.length := by omega
        refine (Any2.slices_Insert_int_grow insLays g 0 l.length cap k vb 0 1 1 (cellsI l) [.int .i64 d] w hi (by omega) hnc (by omega) (by omega) (by simp) rfl hcur hvs (oneCellI l) h1v).mono ?_
        rintro e w' ⟨rfl, rfl⟩
        have hge := grownCap_ge w (l.length + 1) cap 3
        simp only [show insRen.t 3 = 3 from rfl]
        refine ⟨_, rfl, ?_, grown_new w _ _ _ _ _ _, .inr ⟨_, rfl, Nat.le_refl _⟩⟩
        obtain ⟨C, hC⟩ : ∃ C, ((cellsI l).take k).toArray ++ Builtin.zeroCells (Value.int .i64 0).cells (l.length + 1 - k) ++ Builtin.zeroCells (Value.int .i64 0).cells (grownCap w (l.length + 1) cap 3 - (l.length + 1)) = C := ⟨_, rfl⟩
        have hCs : C.size = grownCap w (l.length + 1) cap 3 := by
          rw [← hC]
          simp only [Array.size_append, size_zeroCells, hz0, List.size_toArray, List.length_take, List.length_map]
          omega
        have hCk : ∀ j u, j < k → l[j]? = some u → C[j]? = some (.int .i64 u) := by
          intro j u hj hu
          rw [← hC, Array.append_assoc, Array.getElem?_append_left (by simp; omega)]
          simp [hj, hu]
        rw [hC]
        have hnew : (w.alloc (.cells C 3)).drew.heap[w.heap.size]? = some (.cells C 3) := heap_alloc_new w _
        obtain ⟨c1, hc1, hz1⟩ := cells_set w.heap.size 3 [.int .i64 d] k _ _ hnew
        obtain ⟨c2, hc2, hz2⟩ := cells_set w.heap.size 3 ((cellsI l).drop k) (k + 1) ((w.alloc (.cells C 3)).drew.setCells w.heap.size k [.int .i64 d]).drew _ hc1
        have := own_of_block (l := l.take k ++ d :: l.drop k) hB hc2 (hz2.trans (hz1.trans hCs)) (by rw [hlen]; exact hge) (grownCap_le_maxLen w _ _ _ (by unfold maxLen; omega)) (ins_grow hk hnew (by omega) (fun j u hj hu => by
          simp only [World.cell?, hnew, Option.isSome_none, Bool.false_eq_true, if_false]
          exact hCk j u hj hu))
        rw [hlen] at this
        exact this
end Go.Proofs.YtfmnecknfmgggaaGreatDoor
