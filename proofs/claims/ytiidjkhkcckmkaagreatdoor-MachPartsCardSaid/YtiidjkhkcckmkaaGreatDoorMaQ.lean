/- Layer 15: machines in boxes of nine cells: what stays as it was. -/
import Derived.Test.YtiidjkhkcckmkaaGreatDoorMaS
namespace Go.Proofs.YtiidjkhkcckmkaaGreatDoor
set_option linter.unusedSimpArgs false
set_option linter.unusedVariables false
open Go.RowKit Go.Lib
open Mch (MS)
theorem held10_at {w w1 : World} {a0 a1 a2 a3 a4 a5 a6 a7 a8 a9 : Addr} {u0 u1 u2 u3 u4 u5 u6 u7 u8 u9 : Value} (hb : Below w.heap.size w w1) (h : w.cell? a0 = some u0 ∧ w.cell? a1 = some u1 ∧ w.cell? a2 = some u2 ∧ w.cell? a3 = some u3 ∧ w.cell? a4 = some u4 ∧ w.cell? a5 = some u5 ∧ w.cell? a6 = some u6 ∧ w.cell? a7 = some u7 ∧ w.cell? a8 = some u8 ∧ w.cell? a9 = some u9) : w1.cell? a0 = some u0 ∧ w1.cell? a1 = some u1 ∧ w1.cell? a2 = some u2 ∧ w1.cell? a3 = some u3 ∧ w1.cell? a4 = some u4 ∧ w1.cell? a5 = some u5 ∧ w1.cell? a6 = some u6 ∧ w1.cell? a7 = some u7 ∧ w1.cell? a8 = some u8 ∧ w1.cell? a9 = some u9 := by
  obtain ⟨h0, h1, h2, h3, h4, h5, h6, h7, h8, h9⟩ := h
  exact ⟨by rw [hb.cell (World.block_lt_of_cell? _ _ h0)]; exact h0, by rw [hb.cell (World.block_lt_of_cell? _ _ h1)]; exact h1, by rw [hb.cell (World.block_lt_of_cell? _ _ h2)]; exact h2, by rw [hb.cell (World.block_lt_of_cell? _ _ h3)]; exact h3, by rw [hb.cell (World.block_lt_of_cell? _ _ h4)]; exact h4, by rw [hb.cell (World.block_lt_of_cell? _ _ h5)]; exact h5, by rw [hb.cell (World.block_lt_of_cell? _ _ h6)]; exact h6, by rw [hb.cell (World.block_lt_of_cell? _ _ h7)]; exact h7, by rw [hb.cell (World.block_lt_of_cell? _ _ h8)]; exact h8, by rw [hb.cell (World.block_lt_of_cell? _ _ h9)]; exact h9⟩
theorem held10_drew {w : World} {a0 a1 a2 a3 a4 a5 a6 a7 a8 a9 : Addr} {u0 u1 u2 u3 u4 u5 u6 u7 u8 u9 : Value} (h : w.cell? a0 = some u0 ∧ w.cell? a1 = some u1 ∧ w.cell? a2 = some u2 ∧ w.cell? a3 = some u3 ∧ w.cell? a4 = some u4 ∧ w.cell? a5 = some u5 ∧ w.cell? a6 = some u6 ∧ w.cell? a7 = some u7 ∧ w.cell? a8 = some u8 ∧ w.cell? a9 = some u9) : w.drew.cell? a0 = some u0 ∧ w.drew.cell? a1 = some u1 ∧ w.drew.cell? a2 = some u2 ∧ w.drew.cell? a3 = some u3 ∧ w.drew.cell? a4 = some u4 ∧ w.drew.cell? a5 = some u5 ∧ w.drew.cell? a6 = some u6 ∧ w.drew.cell? a7 = some u7 ∧ w.drew.cell? a8 = some u8 ∧ w.drew.cell? a9 = some u9 := h
/-- nine cells of a block written -/
def set9 (w : World) (k : Nat) (x0 x1 x2 x3 x4 x5 x6 x7 x8 : Value) : World := (((((((((w.setCell ⟨k, 0, none⟩ x0).setCell ⟨k, 1, none⟩ x1).setCell ⟨k, 2, none⟩ x2).setCell ⟨k, 3, none⟩ x3).setCell ⟨k, 4, none⟩ x4).setCell ⟨k, 5, none⟩ x5).setCell ⟨k, 6, none⟩ x6).setCell ⟨k, 7, none⟩ x7).setCell ⟨k, 8, none⟩ x8)
theorem set9_block (w : World) (k : Nat) (x0 x1 x2 x3 x4 x5 x6 x7 x8 : Value) (j : Nat) (h : j ≠ k) : (set9 w k x0 x1 x2 x3 x4 x5 x6 x7 x8).heap[j]? = w.heap[j]? := by
  unfold set9
  simp only [Below.heap_setCell _ _ _ _ (show j ≠ (⟨k, _, none⟩ : Addr).block from h)]
theorem set9_size (w : World) (k : Nat) (x0 x1 x2 x3 x4 x5 x6 x7 x8 : Value) : (set9 w k x0 x1 x2 x3 x4 x5 x6 x7 x8).heap.size = w.heap.size := by
  unfold set9
  simp [World.setCell]
theorem held10_set9 {w : World} {k : Nat} {a0 a1 a2 a3 a4 a5 a6 a7 a8 a9 : Addr} {u0 u1 u2 u3 u4 u5 u6 u7 u8 u9 : Value} (x0 x1 x2 x3 x4 x5 x6 x7 x8 : Value) (h : w.cell? a0 = some u0 ∧ w.cell? a1 = some u1 ∧ w.cell? a2 = some u2 ∧ w.cell? a3 = some u3 ∧ w.cell? a4 = some u4 ∧ w.cell? a5 = some u5 ∧ w.cell? a6 = some u6 ∧ w.cell? a7 = some u7 ∧ w.cell? a8 = some u8 ∧ w.cell? a9 = some u9) (n0 : a0.block ≠ k) (n1 : a1.block ≠ k) (n2 : a2.block ≠ k) (n3 : a3.block ≠ k) (n4 : a4.block ≠ k) (n5 : a5.block ≠ k) (n6 : a6.block ≠ k) (n7 : a7.block ≠ k) (n8 : a8.block ≠ k) (n9 : a9.block ≠ k) : (set9 w k x0 x1 x2 x3 x4 x5 x6 x7 x8).cell? a0 = some u0 ∧ (set9 w k x0 x1 x2 x3 x4 x5 x6 x7 x8).cell? a1 = some u1 ∧ (set9 w k x0 x1 x2 x3 x4 x5 x6 x7 x8).cell? a2 = some u2 ∧ (set9 w k x0 x1 x2 x3 x4 x5 x6 x7 x8).cell? a3 = some u3 ∧ (set9 w k x0 x1 x2 x3 x4 x5 x6 x7 x8).cell? a4 = some u4 ∧ (set9 w k x0 x1 x2 x3 x4 x5 x6 x7 x8).cell? a5 = some u5 ∧ (set9 w k x0 x1 x2 x3 x4 x5 x6 x7 x8).cell? a6 = some u6 ∧ (set9 w k x0 x1 x2 x3 x4 x5 x6 x7 x8).cell? a7 = some u7 ∧ (set9 w k x0 x1 x2 x3 x4 x5 x6 x7 x8).cell? a8 = some u8 ∧ (set9 w k x0 x1 x2 x3 x4 x5 x6 x7 x8).cell? a9 = some u9 := by
  obtain ⟨h0, h1, h2, h3, h4, h5, h6, h7, h8, h9⟩ := h
  exact ⟨(World.cell?_of_block (w := w) (set9_block w k x0 x1 x2 x3 x4 x5 x6 x7 x8 _ n0)).trans h0, (World.cell?_of_block (w := w) (set9_block w k x0 x1 x2 x3 x4 x5 x6 x7 x8 _ n1)).trans h1, (World.cell?_of_block (w := w) (set9_block w k x0 x1 x2 x3 x4 x5 x6 x7 x8 _ n2)).trans h2, (World.cell?_of_block (w := w) (set9_block w k x0 x1 x2 x3 x4 x5 x6 x7 x8 _ n3)).trans h3, (World.cell?_of_block (w := w) (set9_block w k x0 x1 x2 x3 x4 x5 x6 x7 x8 _ n4)).trans h4, (World.cell?_of_block (w := w) (set9_block w k x0 x1 x2 x3 x4 x5 x6 x7 x8 _ n5)).trans h5, (World.cell?_of_block (w := w) (set9_block w k x0 x1 x2 x3 x4 x5 x6 x7 x8 _ n6)).trans h6, (World.cell?_of_block (w := w) (set9_block w k x0 x1 x2 x3 x4 x5 x6 x7 x8 _ n7)).trans h7, (World.cell?_of_block (w := w) (set9_block w k x0 x1 x2 x3 x4 x5 x6 x7 x8 _ n8)).trans h8, (World.cell?_of_block (w := w) (set9_block w k x0 x1 x2 x3 x4 x5 x6 x7 x8 _ n9)).trans h9⟩
/-- between two worlds only the blocks of J were written -/
def SameBut (J : Nat → Prop) (w w1 : World) : Prop := w.heap.size ≤ w1.heap.size ∧ ∀ j, j < w.heap.size → ¬ J j → w1.heap[j]? = w.heap[j]?
theorem same_set9 (w : World) (k : Nat) (x0 x1 x2 x3 x4 x5 x6 x7 x8 : Value) : SameBut (fun j => j = k) w (set9 w k x0 x1 x2 x3 x4 x5 x6 x7 x8) := ⟨by rw [set9_size]; exact Nat.le_refl _, fun j _ h => set9_block w k x0 x1 x2 x3 x4 x5 x6 x7 x8 j h⟩
theorem same_grown {w w1 : World} {row : Option Nat} (h : w.grownBy w1 row) : SameBut (fun j => row = some j) w w1 := ⟨h.size, fun j hj hr => h.block j hj fun e => hr e.symm⟩
theorem ri_but {J : Nat → Prop} {w w1 : World} {v : Value} {l : List Int} (h : RI w v l) (hs : SameBut J w w1) (ho : ∀ j, J j → OffV j v) : RI w1 v l := by
  rcases h with h | ⟨a, c, rfl, hcap, h⟩
  · exact .inl h
  · refine .inr ⟨a, c, rfl, hcap, fun hl => ?_⟩
    obtain ⟨b, o, rfl, h1, h2⟩ := h hl
    have hb : ¬ J b := fun hJ => by
      obtain ⟨a', c', e⟩ := ho b hJ rfl
      injection e with _ e2 _
      omega
    refine ⟨b, o, rfl, Nat.lt_of_lt_of_le h1 hs.1, fun i hi => ?_⟩
    exact (World.cell?_of_block (w := w) (a := ⟨b, o + i, none⟩) (hs.2 b h1 hb)).trans (h2 i hi)
theorem ri_off {w : World} {v : Value} {l : List Int} {j : Nat} (h : RI w v l) (hj : w.heap.size ≤ j) : OffV j v := by
  intro e
  rcases h with ⟨rfl, _⟩ | ⟨a, c, rfl, hcap, h⟩
  · cases e
  · by_cases hl : 0 < l.length
    · obtain ⟨b, o, rfl, h1, _⟩ := h hl
      cases e
      exact absurd (show b < w.heap.size from h1) (Nat.not_lt.2 hj)
    · exact ⟨some a, c, by rw [show l.length = 0 by omega]⟩
theorem offM_iff (j : Nat) (m : MS) (vn vg vc : Value) : OffM j (mchV m vn vg vc) ↔ OffV j vn ∧ OffV j vg ∧ OffV j vc := by
  unfold OffM mchV
  constructor
  · intro h
    have h1 := h _ rfl
    exact ⟨h1 vn (by simp), h1 vg (by simp), h1 vc (by simp)⟩
  · rintro ⟨h1, h2, h3⟩ cs e u hu
    cases e
    simp only [List.mem_cons, List.not_mem_nil, or_false] at hu
    rcases hu with rfl | rfl | rfl | rfl | rfl | rfl | rfl | rfl | rfl
    all_goals first | assumption | exact fun e => by cases e
theorem rm_but {J : Nat → Prop} {w w1 : World} {v : Value} {m : MS} (h : RM w v m) (hs : SameBut J w w1) (ho : ∀ j, J j → OffM j v) : RM w1 v m := by
  obtain ⟨vn, vg, vc, rfl, h1, h2, h3⟩ := h
  have hof := fun j hj => (offM_iff j m vn vg vc).1 (ho j hj)
  exact ⟨vn, vg, vc, rfl, ri_but h1 hs fun j hj => (hof j hj).1, ri_but h2 hs fun j hj => (hof j hj).2.1, ri_but h3 hs fun j hj => (hof j hj).2.2⟩
theorem rm_off {w : World} {v : Value} {m : MS} {j : Nat} (h : RM w v m) (hj : w.heap.size ≤ j) : OffM j v := by
  obtain ⟨vn, vg, vc, rfl, h1, h2, h3⟩ := h
  exact (offM_iff j m vn vg vc).2 ⟨ri_off h1 hj, ri_off h2 hj, ri_off h3 hj⟩
end Go.Proofs.YtiidjkhkcckmkaaGreatDoor
