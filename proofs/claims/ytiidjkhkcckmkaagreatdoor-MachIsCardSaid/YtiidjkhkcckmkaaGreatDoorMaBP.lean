/- Texts that stand together. -/
import Derived.Test.YtiidjkhkcckmkaaGreatDoorMaS
import Derived.Test.YtiidjkhkcckmkaaGreatDoorBasP
import Derived.Deep.RegionHeld3
import Derived.Test.YtiidjkhkcckmkaaGreatDoorKP
import Derived.WalkKit
import Derived.OrdersHeld
import Derived.Deep.RegionHeld
import Derived.Deep.DeepCutAuto
import Derived.Deep.LoopGhost
/- Layer 15: machines in boxes of nine cells: what stays as it was. -/
namespace Go.Proofs.YtiidjkhkcckmkaaGreatDoor
set_option linter.unusedSimpArgs false
set_option linter.unusedVariables false
open Go.RowKit Go.Lib
open Mch (MS)
theorem held10_at {w w1 : World} {a0 a1 a2 a3 a4 a5 a6 a7 a8 a9 : Addr} {u0 u1 u2 u3 u4 u5 u6 u7 u8 u9 : Value} (hb : Below w.heap.size w w1) (h : w.cell? a0 = some u0 ∧ w.cell? a1 = some u1 ∧ w.cell? a2 = some u2 ∧ w.cell? a3 = some u3 ∧ w.cell? a4 = some u4 ∧ w.cell? a5 = some u5 ∧ w.cell? a6 = some u6 ∧ w.cell? a7 = some u7 ∧ w.cell? a8 = some u8 ∧ w.cell? a9 = some u9) : w1.cell? a0 = some u0 ∧ w1.cell? a1 = some u1 ∧ w1.cell? a2 = some u2 ∧ w1.cell? a3 = some u3 ∧ w1.cell? a4 = some u4 ∧ w1.cell? a5 = some u5 ∧ w1.cell? a6 = some u6 ∧ w1.cell? a7 = some u7 ∧ w1.cell? a8 = some u8 ∧ w1.cell? a9 = some u9 := by
  obtain ⟨h0, h1, h2, h3, h4, h5, h6, h7, h8, h9⟩ := h
  exact ⟨by rw [hb.cell (World.block_lt_of_cell? _ _ h0)]; exact h0, by rw [hb.cell (World.block_lt_of_cell? _ _ h1)]; exact h1, by rw [hb.cell (World.block_lt_of_cell? _ _ h2)]; exact h2, by rw [hb.cell (World.block_lt_of_cell? _ _ h3)]; exact h3, by rw [hb.cell (World.block_lt_of_cell? _ _ h4)]; exact h4, by rw [hb.cell (World.block_lt_of_cell? _ _ h5)]; exact h5, by rw [hb.cell (World.block_lt_of_cell? _ _ h6)]; exact h6, by rw [hb.cell (World.block_lt_of_cell? _ _ h7)]; exact h7, by rw [hb.cell (World.block_lt_of_cell? _ _ h8)]; exact h8, by rw [hb.cell (World.block_lt_of_cell? _ _ h9)]; exact h9⟩
theorem held10_drew {w : World} {a0 a1 a2 a3 a4 a5 a6 a7 a8 a9 : Addr} {u0 u1 u2 u3 u4 u5 u6 u7 u8 u9 : Value} (h : w.cell? a0 = some u0 ∧ w.cell? a1 = some u1 ∧ w.cell? a2 = some u2 ∧ w.cell? a3 = some u3 ∧ w.cell? a4 = some u4 ∧ w.cell? a5 = some u5 ∧ w.cell? a6 = some u6 ∧ w.cell? a7 = some u7 ∧ w.cell? a8 = some u8 ∧ w.cell? a9 = some u9) : w.drew.cell? a0 = some u0 ∧ w.drew.cell? a1 = some u1 ∧ w.drew.cell? a2 = some u2 ∧ w.drew.cell? a3 = some u3 ∧ w.drew.cell? a4 = some u4 ∧ w.drew.cell? a5 = some u5 ∧ w.drew.cell? a6 = some u6 ∧ w.drew.cell? a7 = some u7 ∧ w.drew.cell? a8 = some u8 ∧ w.drew.cell? a9 = some u9 := h
def set9 (w : World) (k : Nat) (x0 x1 x2 x3 x4 x5 x6 x7 x8 : Value) : World := (((((((((w.setCell ⟨k, 0, none⟩ x0).setCell ⟨k, 1, none⟩ x1).setCell ⟨k, 2, none⟩ x2).setCell ⟨k, 3, none⟩ x3).setCell ⟨k, 4, none⟩ x4).setCell ⟨k, 5, none⟩ x5).setCell ⟨k, 6, none⟩ x6).setCell ⟨k, 7, none⟩ x7).setCell ⟨k, 8, none⟩ x8)
theorem set9_block (w : World) (k : Nat) (x0 x1 x2 x3 x4 x5 x6 x7 x8 : Value) (j : Nat) (h : j ≠ k) : (set9 w k x0 x1 x2 x3 x4 x5 x6 x7 x8).heap[j]? = w.heap[j]? := by
  unfold set9
  simp only [Below.heap_setCell _ _ _ _ (show j ≠ (⟨k, _, none⟩ : Addr).block from h)]
theorem set9_size (w : World) (k : Nat) (x0 x1 x2 x3 x4 x5 x6 x7 x8 : Value) : (set9 w k x0 x1 x2 x3 x4 x5 x6 x7 x8).heap.size = w.heap.size := by
  unfold set9
  simp [World.setCell]
theorem held10_set9 {w : World} {k : Nat} {a0 a1 a2 a3 a4 a5 a6 a7 a8 a9 : Addr} {u0 u1 u2 u3 u4 u5 u6 u7 u8 u9 : Value} (x0 x1 x2 x3 x4 x5 x6 x7 x8 : Value) (h : w.cell? a0 = some u0 ∧ w.cell? a1 = some u1 ∧ w.cell? a2 = some u2 ∧ w.cell? a3 = some u3 ∧ w.cell? a4 = some u4 ∧ w.cell? a5 = some u5 ∧ w.cell? a6 = some u6 ∧ w.cell? a7 = some u7 ∧ w.cell? a8 = some u8 ∧ w.cell? a9 = some u9) (n0 : a0.block ≠ k) (n1 : a1.block ≠ k) (n2 : a2.block ≠ k) (n3 : a3.block ≠ k) (n4 : a4.block ≠ k) (n5 : a5.block ≠ k) (n6 : a6.block ≠ k) (n7 : a7.block ≠ k) (n8 : a8.block ≠ k) (n9 : a9.block ≠ k) : (set9 w k x0 x1 x2 x3 x4 x5 x6 x7 x8).cell? a0 = some u0 ∧ (set9 w k x0 x1 x2 x3 x4 x5 x6 x7 x8).cell? a1 = some u1 ∧ (set9 w k x0 x1 x2 x3 x4 x5 x6 x7 x8).cell? a2 = some u2 ∧ (set9 w k x0 x1 x2 x3 x4 x5 x6 x7 x8).cell? a3 = some u3 ∧ (set9 w k x0 x1 x2 x3 x4 x5 x6 x7 x8).cell? a4 = some u4 ∧ (set9 w k x0 x1 x2 x3 x4 x5 x6 x7 x8).cell? a5 = some u5 ∧ (set9 w k x0 x1 x2 x3 x4 x5 x6 x7 x8).cell? a6 = some u6 ∧ (set9 w k x0 x1 x2 x3 x4 x5 x6 x7 x8).cell? a7 = some u7 ∧ (set9 w k x0 x1 x2 x3 x4 x5 x6 x7 x8).cell? a8 = some u8 ∧ (set9 w k x0 x1 x2 x3 x4 x5 x6 x7 x8).cell? a9 = some u9 := by
  obtain ⟨h0, h1, h2, h3, h4, h5, h6, h7, h8, h9⟩ := h
  exact ⟨(World.cell?_of_block (w := w) (set9_block w k x0 x1 x2 x3 x4 x5 x6 x7 x8 _ n0)).trans h0, (World.cell?_of_block (w := w) (set9_block w k x0 x1 x2 x3 x4 x5 x6 x7 x8 _ n1)).trans h1, (World.cell?_of_block (w := w) (set9_block w k x0 x1 x2 x3 x4 x5 x6 x7 x8 _ n2)).trans h2, (World.cell?_of_block (w := w) (set9_block w k x0 x1 x2 x3 x4 x5 x6 x7 x8 _ n3)).trans h3, (World.cell?_of_block (w := w) (set9_block w k x0 x1 x2 x3 x4 x5 x6 x7 x8 _ n4)).trans h4, (World.cell?_of_block (w := w) (set9_block w k x0 x1 x2 x3 x4 x5 x6 x7 x8 _ n5)).trans h5, (World.cell?_of_block (w := w) (set9_block w k x0 x1 x2 x3 x4 x5 x6 x7 x8 _ n6)).trans h6, (World.cell?_of_block (w := w) (set9_block w k x0 x1 x2 x3 x4 x5 x6 x7 x8 _ n7)).trans h7, (World.cell?_of_block (w := w) (set9_block w k x0 x1 x2 x3 x4 x5 x6 x7 x8 _ n8)).trans h8, (World.cell?_of_block (w := w) (set9_block w k x0 x1 x2 x3 x4 x5 x6 x7 x8 _ n9)).trans h9⟩
def SameBut (J : Nat → Prop) (w w1 : World) : Prop := w.heap.size ≤ w1.heap.size ∧ ∀ j, j < w.heap.size → ¬ J j → w1.heap[j]? = w.heap[j]?
theorem same_set9 (w : World) (k : Nat) (x0 x1 x2 x3 x4 x5 x6 x7 x8 : Value) : SameBut (fun j => j = k) w (set9 w k x0 x1 x2 x3 x4 x5 x6 x7 x8) := ⟨by rw [set9_size]; exact Nat.le_refl _, fun j _ h => set9_block w k x0 x1 x2 x3 x4 x5 x6 x7 x8 j h⟩
theorem same_grown {w w1 : World} {row : Option Nat} (h : w.grownBy w1 row) : SameBut (fun j => row = some j) w w1 := ⟨h.size, fun j hj hr => h.block j hj fun e => hr e.symm⟩
theorem ri_but {J : Nat → Prop} {w w1 : World} {v : Value} {l : List Int} (h : RI w v l) (hs : SameBut J w w1) (ho : ∀ j, J j → OffV j v) : RI w1 v l := by
  rcases h with h | ⟨a, c, rfl, hcap, h⟩
  · exact .inl h
  · refine .inr ⟨a, c, rfl, hcap, fun hl => ?_⟩
    obtain ⟨b, o, rfl, h1, h2⟩ := h hl
    have hb : ¬ J b := fun hJ => by
      obtain ⟨a', c', e⟩ := ho b hJ rfl
      injection e with _ e2 _
      omega
    refine ⟨b, o, rfl, Nat.lt_of_lt_of_le h1 hs.1, fun i hi => ?_⟩
    exact (World.cell?_of_block (w := w) (a := ⟨b, o + i, none⟩) (hs.2 b h1 hb)).trans (h2 i hi)
theorem ri_off {w : World} {v : Value} {l : List Int} {j : Nat} (h : RI w v l) (hj : w.heap.size ≤ j) : OffV j v := by
  intro e
  rcases h with ⟨rfl, _⟩ | ⟨a, c, rfl, hcap, h⟩
  · cases e
  · by_cases hl : 0 < l.length
    · obtain ⟨b, o, rfl, h1, _⟩ := h hl
      cases e
      exact absurd (show b < w.heap.size from h1) (Nat.not_lt.2 hj)
    · exact ⟨some a, c, by rw [show l.length = 0 by omega]⟩
theorem offM_iff (j : Nat) (m : MS) (vn vg vc : Value) : OffM j (mchV m vn vg vc) ↔ OffV j vn ∧ OffV j vg ∧ OffV j vc := by
  unfold OffM mchV
  constructor
  · intro h
    have h1 := h _ rfl
    exact ⟨h1 vn (by simp), h1 vg (by simp), h1 vc (by simp)⟩
  · rintro ⟨h1, h2, h3⟩ cs e u hu
    cases e
    simp only [List.mem_cons, List.not_mem_nil, or_false] at hu
    rcases hu with rfl | rfl | rfl | rfl | rfl | rfl | rfl | rfl | rfl
    all_goals first | assumption | exact fun e => by cases e
theorem rm_but {J : Nat → Prop} {w w1 : World} {v : Value} {m : MS} (h : RM w v m) (hs : SameBut J w w1) (ho : ∀ j, J j → OffM j v) : RM w1 v m := by
  obtain ⟨vn, vg, vc, rfl, h1, h2, h3⟩ := h
  have hof := fun j hj => (offM_iff j m vn vg vc).1 (ho j hj)
  exact ⟨vn, vg, vc, rfl, ri_but h1 hs fun j hj => (hof j hj).1, ri_but h2 hs fun j hj => (hof j hj).2.1, ri_but h3 hs fun j hj => (hof j hj).2.2⟩
theorem rm_off {w : World} {v : Value} {m : MS} {j : Nat} (h : RM w v m) (hj : w.heap.size ≤ j) : OffM j v := by
  obtain ⟨vn, vg, vc, rfl, h1, h2, h3⟩ := h
  exact (offM_iff j m vn vg vc).2 ⟨ri_off h1 hj, ri_off h2 hj, ri_off h3 hj⟩
end Go.Proofs.YtiidjkhkcckmkaaGreatDoor

/- Layer 15: behind an item that was fed: the new machine in a box of its own, what it told. -/
namespace Go.Proofs.YtiidjkhkcckmkaaGreatDoor
set_option linter.unusedSimpArgs false
set_option linter.unusedVariables false
open Go.RowKit Go.Lib
open Mch (MS)
theorem blk_setAt15 {w : World} {k : Nat} {cs : Array Value} {T : TypeId} (h : Blk w k cs T) (i : Nat) (u : Value) : Blk (w.setCell ⟨k, i, none⟩ u) k (cs.setIfInBounds i u) T := by
  have := heap_setCell_same w k i cs T u h
  unfold Blk
  simpa using this
theorem blk_set9 {w : World} {k : Nat} {z0 z1 z2 z3 z4 z5 z6 z7 z8 : Value} {T : TypeId} (h : Blk w k #[z0, z1, z2, z3, z4, z5, z6, z7, z8] T) (x0 x1 x2 x3 x4 x5 x6 x7 x8 : Value) : Blk (set9 w k x0 x1 x2 x3 x4 x5 x6 x7 x8) k #[x0, x1, x2, x3, x4, x5, x6, x7, x8] T := by
  have h1 : Blk (w.setCell ⟨k, 0, none⟩ x0) k #[x0, z1, z2, z3, z4, z5, z6, z7, z8] T := by simpa using blk_setAt15 h 0 x0
  have h2 : Blk ((w.setCell ⟨k, 0, none⟩ x0).setCell ⟨k, 1, none⟩ x1) k #[x0, x1, z2, z3, z4, z5, z6, z7, z8] T := by simpa using blk_setAt15 h1 1 x1
  have h3 : Blk (((w.setCell ⟨k, 0, none⟩ x0).setCell ⟨k, 1, none⟩ x1).setCell ⟨k, 2, none⟩ x2) k #[x0, x1, x2, z3, z4, z5, z6, z7, z8] T := by simpa using blk_setAt15 h2 2 x2
  have h4 : Blk ((((w.setCell ⟨k, 0, none⟩ x0).setCell ⟨k, 1, none⟩ x1).setCell ⟨k, 2, none⟩ x2).setCell ⟨k, 3, none⟩ x3) k #[x0, x1, x2, x3, z4, z5, z6, z7, z8] T := by simpa using blk_setAt15 h3 3 x3
  have h5 : Blk (((((w.setCell ⟨k, 0, none⟩ x0).setCell ⟨k, 1, none⟩ x1).setCell ⟨k, 2, none⟩ x2).setCell ⟨k, 3, none⟩ x3).setCell ⟨k, 4, none⟩ x4) k #[x0, x1, x2, x3, x4, z5, z6, z7, z8] T := by simpa using blk_setAt15 h4 4 x4
  have h6 : Blk ((((((w.setCell ⟨k, 0, none⟩ x0).setCell ⟨k, 1, none⟩ x1).setCell ⟨k, 2, none⟩ x2).setCell ⟨k, 3, none⟩ x3).setCell ⟨k, 4, none⟩ x4).setCell ⟨k, 5, none⟩ x5) k #[x0, x1, x2, x3, x4, x5, z6, z7, z8] T := by simpa using blk_setAt15 h5 5 x5
  have h7 : Blk (((((((w.setCell ⟨k, 0, none⟩ x0).setCell ⟨k, 1, none⟩ x1).setCell ⟨k, 2, none⟩ x2).setCell ⟨k, 3, none⟩ x3).setCell ⟨k, 4, none⟩ x4).setCell ⟨k, 5, none⟩ x5).setCell ⟨k, 6, none⟩ x6) k #[x0, x1, x2, x3, x4, x5, x6, z7, z8] T := by simpa using blk_setAt15 h6 6 x6
  have h8 : Blk ((((((((w.setCell ⟨k, 0, none⟩ x0).setCell ⟨k, 1, none⟩ x1).setCell ⟨k, 2, none⟩ x2).setCell ⟨k, 3, none⟩ x3).setCell ⟨k, 4, none⟩ x4).setCell ⟨k, 5, none⟩ x5).setCell ⟨k, 6, none⟩ x6).setCell ⟨k, 7, none⟩ x7) k #[x0, x1, x2, x3, x4, x5, x6, x7, z8] T := by simpa using blk_setAt15 h7 7 x7
  have h9 : Blk (((((((((w.setCell ⟨k, 0, none⟩ x0).setCell ⟨k, 1, none⟩ x1).setCell ⟨k, 2, none⟩ x2).setCell ⟨k, 3, none⟩ x3).setCell ⟨k, 4, none⟩ x4).setCell ⟨k, 5, none⟩ x5).setCell ⟨k, 6, none⟩ x6).setCell ⟨k, 7, none⟩ x7).setCell ⟨k, 8, none⟩ x8) k #[x0, x1, x2, x3, x4, x5, x6, x7, x8] T := by simpa using blk_setAt15 h8 8 x8
  exact h9
theorem below_set9 {B : Nat} {w0 w : World} (h : Below B w0 w) {k : Nat} (hk : B ≤ k) (x0 x1 x2 x3 x4 x5 x6 x7 x8 : Value) : Below B w0 (set9 w k x0 x1 x2 x3 x4 x5 x6 x7 x8) := by
  unfold set9
  exact (Below.setCell (Below.setCell (Below.setCell (Below.setCell (Below.setCell (Below.setCell (Below.setCell (Below.setCell (Below.setCell h (p := ⟨k, 0, none⟩) hk x0) (p := ⟨k, 1, none⟩) hk x1) (p := ⟨k, 2, none⟩) hk x2) (p := ⟨k, 3, none⟩) hk x3) (p := ⟨k, 4, none⟩) hk x4) (p := ⟨k, 5, none⟩) hk x5) (p := ⟨k, 6, none⟩) hk x6) (p := ⟨k, 7, none⟩) hk x7) (p := ⟨k, 8, none⟩) hk x8)
def Mid15 (T : TypeId) (wq : World) (vs : Value) (q : MS × List Int) (u t : Value) (wx : World) : Prop :=
  ∃ (bt : Nat) (va : Value) (cs : Array Value), u = .pointer (some ⟨bt, 0, none⟩) ∧ wq.heap.size ≤ bt ∧ va = .agg cs ∧ Blk wx bt cs T ∧ RM wx va q.1 ∧ RI wx t q.2 ∧ (∀ j, j < wq.heap.size → OffM j vs → OffM j va ∧ OffV j t) ∧ OffM bt va ∧ OffV bt t ∧ Below wq.heap.size wq wx
theorem mid15_last {T : TypeId} {wq w2 : World} {vs vb : Value} {q : MS × List Int} {cs : Array Value} (ha : RM w2 (.agg cs) q.1) (ht : RI w2 vb q.2) (ho : ∀ j, j < wq.drew.heap.size → OffM j vs → OffM j (.agg cs) ∧ OffV j vb) (hb2 : Below wq.drew.heap.size wq.drew w2) :
    Mid15 T wq vs q (.pointer (some ⟨w2.heap.size, 0, none⟩)) vb (w2.alloc (.cells cs T)) := by
  have hA : Below wq.heap.size wq w2 := (Below.refl _ _).drew.trans hb2
  have hn := below_new w2 (.cells cs T)
  exact ⟨w2.heap.size, _, cs, rfl, hA.size, rfl, blk_new w2 _ _, rm_below ha hn, ri_below ht hn, ho, rm_off ha (Nat.le_refl _), ri_off ht (Nat.le_refl _), hA.alloc hA.size _⟩
theorem mid15_first {T : TypeId} {wq w2 : World} {vs vb : Value} {m : MS} {q : MS × List Int} {z0 z1 z2 z3 z4 z5 z6 z7 z8 x0 x1 x2 x3 x4 x5 x6 x7 x8 : Value} (hv : RM wq vs m) (ha : RM w2 (.agg #[x0, x1, x2, x3, x4, x5, x6, x7, x8]) q.1) (ht : RI w2 vb q.2)
    (ho : ∀ j, j < (wq.alloc (.cells #[z0, z1, z2, z3, z4, z5, z6, z7, z8] T)).drew.heap.size → OffM j vs → OffM j (.agg #[x0, x1, x2, x3, x4, x5, x6, x7, x8]) ∧ OffV j vb) (hb2 : Below (wq.alloc (.cells #[z0, z1, z2, z3, z4, z5, z6, z7, z8] T)).drew.heap.size (wq.alloc (.cells #[z0, z1, z2, z3, z4, z5, z6, z7, z8] T)).drew w2) :
    Mid15 T wq vs q (.pointer (some ⟨wq.heap.size, 0, none⟩)) vb (set9 w2 wq.heap.size x0 x1 x2 x3 x4 x5 x6 x7 x8) := by
  have hA : Below wq.heap.size wq (wq.alloc (.cells #[z0, z1, z2, z3, z4, z5, z6, z7, z8] T)).drew := ((Below.refl _ _).alloc (Nat.le_refl _) _).drew
  have hlt : wq.heap.size < (wq.alloc (.cells #[z0, z1, z2, z3, z4, z5, z6, z7, z8] T)).drew.heap.size := by simp
  have hblk : Blk w2 wq.heap.size #[z0, z1, z2, z3, z4, z5, z6, z7, z8] T := blk_below (w := (wq.alloc (.cells #[z0, z1, z2, z3, z4, z5, z6, z7, z8] T)).drew) (blk_new wq _ _) hb2
  obtain ⟨o1, o2⟩ := ho wq.heap.size hlt (rm_off hv (Nat.le_refl _))
  have hs := same_set9 w2 wq.heap.size x0 x1 x2 x3 x4 x5 x6 x7 x8
  exact ⟨wq.heap.size, _, _, rfl, Nat.le_refl _, rfl, blk_set9 hblk x0 x1 x2 x3 x4 x5 x6 x7 x8, rm_but ha hs (fun j e => e ▸ o1), ri_but ht hs (fun j e => e ▸ o2), (fun j hj => ho j (Nat.lt_trans hj hlt)), o1, o2, below_set9 (hA.trans (hb2.mono hA.size)) (Nat.le_refl _) x0 x1 x2 x3 x4 x5 x6 x7 x8⟩
end Go.Proofs.YtiidjkhkcckmkaaGreatDoor

/- Layer 15: the document's New, cut, items. -/
namespace Go.Proofs.YtiidjkhkcckmkaaGreatDoor
set_option linter.unusedSimpArgs false
set_option linter.unusedVariables false
open Go.RowKit Go.Lib
open Mch (MS)
abbrev nilV : Value := .slice none 0 0
abbrev bare9 (k : Int) : Array Value := #[.int .i64 k, .string ⟨#[]⟩, .slice none 0 0, .slice none 0 0, .bool false, .int .i64 0, .bool false, .bool false, .slice none 0 0]
theorem held9 {w : World} {k : Nat} {x0 x1 x2 x3 x4 x5 x6 x7 x8 : Value} {T : TypeId} (h : Blk w k #[x0, x1, x2, x3, x4, x5, x6, x7, x8] T) : w.cell? ⟨k, 0, none⟩ = some x0 ∧ w.cell? ⟨k, 1, none⟩ = some x1 ∧ w.cell? ⟨k, 2, none⟩ = some x2 ∧ w.cell? ⟨k, 3, none⟩ = some x3 ∧ w.cell? ⟨k, 4, none⟩ = some x4 ∧ w.cell? ⟨k, 5, none⟩ = some x5 ∧ w.cell? ⟨k, 6, none⟩ = some x6 ∧ w.cell? ⟨k, 7, none⟩ = some x7 ∧ w.cell? ⟨k, 8, none⟩ = some x8 :=
  ⟨blk_cell h 0 _ rfl, blk_cell h 1 _ rfl, blk_cell h 2 _ rfl, blk_cell h 3 _ rfl, blk_cell h 4 _ rfl, blk_cell h 5 _ rfl, blk_cell h 6 _ rfl, blk_cell h 7 _ rfl, blk_cell h 8 _ rfl⟩
set_option maxHeartbeats 3200000 in
set_option maxRecDepth 100000 in
theorem rnew15_any (k : Int) (w : World) : Calls Tryz.prog 19 #[.int .i64 k] w fun e w' => e = .returned (.agg (bare9 (if 0 ≤ k ∧ k ≤ 4 then k else 0))) ∧ Below w.heap.size w w' := by
  have hres := blk_new w (bare9 0) 32
  have hb0 := Lib.hid (below_new w (.cells (bare9 0) 32))
  obtain ⟨W, hW⟩ : ∃ W, w.alloc (.cells (bare9 0) 32) = W := ⟨_, rfl⟩
  rw [hW] at hres hb0
  obtain ⟨c0, c1, c2, c3, c4, c5, c6, c7, c8⟩ := held9 hres
  have f0 := blk_thaw hres 0
  have f1 := blk_thaw hres 1
  have f2 := blk_thaw hres 2
  have f3 := blk_thaw hres 3
  have f4 := blk_thaw hres 4
  have f5 := blk_thaw hres 5
  have f6 := blk_thaw hres 6
  have f7 := blk_thaw hres 7
  have f8 := blk_thaw hres 8
  replace hres := Lib.hid hres
  replace hW := Lib.hid hW
  by_cases h : 0 ≤ k ∧ k ≤ 4
  · rw [if_pos h]
    obtain ⟨h1, h2⟩ := h
    have t1 : ¬ k < 0 := by omega
    have t2 : ¬ 4 < k := by omega
    go_enter Tryz.func19, Tryz.ntmps19
    go_upto_region 1 with (fail)
    rw [hW.out]
    go_wp2_with fail
    all_goals
      have n5 := blk_set9 hres.out (.int .i64 k) (.string ⟨#[]⟩) nilV nilV (.bool false) (.int .i64 0) (.bool false) (.bool false) nilV
      unfold set9 at n5
      obtain ⟨d0, d1, d2, d3, d4, d5, d6, d7, d8⟩ := held9 n5
      refine bodyPost_ret (v := .agg (bare9 k)) ?_ rfl ⟨rfl, ?_⟩
      · simp [results, Tryz.results19, go_sem, d0, d1, d2, d3, d4, d5, d6, d7, d8]
      · have := below_set9 hb0.out (Nat.le_refl w.heap.size) (.int .i64 k) (.string ⟨#[]⟩) nilV nilV (.bool false) (.int .i64 0) (.bool false) (.bool false) nilV
        unfold set9 at this
        exact this
  · rw [if_neg h]
    have t1 : k < 0 ∨ (¬ k < 0 ∧ 4 < k) := by omega
    rcases t1 with t1 | ⟨t1, t2⟩
    all_goals
      go_enter Tryz.func19, Tryz.ntmps19
      go_upto_region 1 with (fail)
      rw [hW.out]
      go_wp2_with fail
      have n5 := blk_set9 hres.out (.int .i64 0) (.string ⟨#[]⟩) nilV nilV (.bool false) (.int .i64 0) (.bool false) (.bool false) nilV
      unfold set9 at n5
      obtain ⟨d0, d1, d2, d3, d4, d5, d6, d7, d8⟩ := held9 n5
      refine bodyPost_ret (v := .agg (bare9 0)) ?_ rfl ⟨rfl, ?_⟩
      · simp [results, Tryz.results19, go_sem, d0, d1, d2, d3, d4, d5, d6, d7, d8]
      · have := below_set9 hb0.out (Nat.le_refl w.heap.size) (.int .i64 0) (.string ⟨#[]⟩) nilV nilV (.bool false) (.int .i64 0) (.bool false) (.bool false) nilV
        unfold set9 at this
        exact this
theorem cut_app (c : List Int) (h : c ≠ []) : Mch.cutOf c = c ++ [-1] := by
  unfold Mch.cutOf
  rw [if_neg h]
set_option maxHeartbeats 1600000 in
set_option maxRecDepth 100000 in
theorem rcut15_any (v : Value) (c : List Int) (w : World) (hl : c.length ≤ 1000) (hv : RI w v c) : Calls Tryz.prog 38 #[v] w (Makes (Mch.cutOf c) w) := by
  obtain ⟨i0, hi, hz0, hz1, hz2⟩ := info_parts info_i
  obtain ⟨p, cap, rfl⟩ := ri_form hv
  by_cases hc : c = []
  · subst hc
    replace hv := Lib.hid hv
    rw [show Mch.cutOf [] = [] from rfl]
    go_enter Tryz.func38, Tryz.ntmps38
    go_wp2_with fail
    go_ret
    exact ⟨_, rfl, ownI_nil _ _, Below.refl _ _⟩
  · rw [cut_app c hc]
    have hne : c.length ≠ 0 := fun e => hc (List.eq_nil_of_length_eq_zero e)
    have ht : ¬ ((c.length : Int) = 0) := by omega
    replace hne := Lib.hid hne
    replace hc := Lib.hid hc
    have o1 := Lib.hid (ownI_lit w.heap.size w [] #[] w.heap.size 0 rfl (Nat.le_refl _) rfl rfl (by unfold maxLen; omega))
    have s1 := Lib.hid (ri_src (ri_below hv (below_new w (.cells #[] 3))))
    have b1 := Lib.hid (below_new w (.cells #[] 3))
    replace hv := Lib.hid hv
    go_enter Tryz.func38, Tryz.ntmps38
    go_wp2_with (first | (at_builtin; refine wpList_append_src rfl _ _ 24 rfl w.heap.size 3 i0 (.int .i64 0) 8 Tryz.underlying24 hi hz0 hz1 hz2 rfl _ _ _ rfl o1.out _ _ rfl s1.out (oneCellI _) (by simp only [List.length_map, List.length_append, List.length_take, List.length_drop, List.length_cons, List.length_nil, List.length_singleton]; unfold maxLen; omega) (by simp only [List.length_map, List.length_append, List.length_take, List.length_drop, List.length_cons, List.length_nil, List.length_singleton]; omega) b1.out.size ?_; intro v2 w2 ho2 hg2; have o2 := Lib.hid (ownI_of_row (l := c) ho2 (by (try simp); try omega) (by (try simp); try omega)); have b2 := Lib.hid (below_row b1.out hg2 b1.out.size o1.out (Nat.le_refl _)); obtain ⟨p2, c2, rfl⟩ := ri_form (ri_of_own o2.out); have o3 := Lib.hid (ownI_alloc o2.out (.cells #[.int .i64 (-1)] 3)); have s3 := Lib.hid (ri_src (ri_of_own (ownI_lit w2.heap.size w2 [-1] #[.int .i64 (-1)] w2.heap.size 1 rfl (Nat.le_refl _) rfl rfl (by unfold maxLen; omega)))); have b3 := Lib.hid (b2.out.alloc b2.out.size (.cells #[.int .i64 (-1)] 3)); clear ho2 hg2) | (at_builtin; refine wpList_append_src rfl _ _ 24 rfl w.heap.size 3 i0 (.int .i64 0) 8 Tryz.underlying24 hi hz0 hz1 hz2 rfl _ _ _ rfl o3.out _ _ rfl s3.out (oneCellI _) (by simp only [List.length_map, List.length_append, List.length_take, List.length_drop, List.length_cons, List.length_nil, List.length_singleton]; unfold maxLen; omega) (by simp only [List.length_map, List.length_append, List.length_take, List.length_drop, List.length_cons, List.length_nil, List.length_singleton]; omega) b3.out.size ?_; intro v4 w4 ho4 hg4; have o4 := Lib.hid (ownI_of_row (l := c ++ [-1]) ho4 (by (try simp); try omega) (by (try simp); try omega)); have b4 := Lib.hid (below_row b3.out hg4 b3.out.size o3.out (Nat.le_refl _)); clear ho4 hg4))
    go_ret
    exact ⟨_, rfl, o4.out, b4.out⟩
theorem items_snoc (b : List UInt8) (k : Nat) (h : k < b.length) : Mch.itemsOf (b.take (k + 1)) = Mch.itemsOf (b.take k) ++ [(b[k].toNat : Int)] := by
  unfold Mch.itemsOf
  rw [List.take_succ_eq_append_getElem h, List.map_append]
  rfl
set_option maxHeartbeats 1600000 in
set_option maxRecDepth 100000 in
theorem ritems15_any (v : Value) (l : List UInt8) (w : World) (hl : l.length ≤ 100000) (hv : RBytes w v l) : Calls Tryz.prog 71 #[v] w (Makes (Mch.itemsOf l) w) := by
  obtain ⟨i0, hi, hz0, hz1, hz2⟩ := info_parts info_i
  obtain ⟨p, cap, rfl⟩ := bytes_form hv
  replace hv := Lib.hid hv
  go_enter Tryz.func71, Tryz.ntmps71
  go_wp2_with fail
  go_loopg [3, 4] l.length (fun g vo vi wr => ∃ k : Nat, k ≤ l.length ∧ vi = .int .i64 k ∧ g = l.length - k ∧ OwnI w.heap.size vo (Mch.itemsOf (l.take k)) wr ∧ Below w.heap.size w wr)
  case atStart => exact ⟨0, Nat.zero_le _, rfl, rfl, ownI_nil _ _, Below.refl _ _⟩
  case round =>
    obtain ⟨k, hk, rfl, rfl, hown, hbel⟩ := hrel
    have hol : (Mch.itemsOf (l.take k)).length = k := by unfold Mch.itemsOf; simp; omega
    by_cases hlt : k < l.length
    · have hlt' : (k : Int) < (l.length : Int) := by omega
      obtain ⟨b, off, rfl, hb, hcell⟩ := bytes_at hv.out (by omega)
      have hc := (hbel.cell hb).trans (hcell k hlt)
      have hsn := items_snoc l k hlt
      obtain ⟨x, hx⟩ : ∃ x, l[k] = x := ⟨_, rfl⟩
      rw [hx] at hc hsn
      obtain ⟨o, ho⟩ : ∃ o, Mch.itemsOf (l.take k) = o := ⟨_, rfl⟩
      rw [ho] at hown hol hsn
      have hxw : wrap64 (x.toNat : Int) = (x.toNat : Int) := by have := x.toNat_lt; unfold wrap64; omega
      have o1 := Lib.hid (ownI_alloc hown (.cells #[.int .i64 (x.toNat : Int)] 3))
      have s1 := Lib.hid (ri_src (ri_of_own (ownI_lit wr.heap.size wr [(x.toNat : Int)] #[.int .i64 (x.toNat : Int)] wr.heap.size 1 rfl (Nat.le_refl _) rfl rfl (by unfold maxLen; omega))))
      have b1 := Lib.hid (hbel.alloc hbel.size (.cells #[.int .i64 (x.toNat : Int)] 3))
      replace hsn := Lib.hid hsn
      replace ho := Lib.hid ho
      replace hown := Lib.hid hown
      replace hbel := Lib.hid hbel
      clear hcell hx
      go_wp2_with (at_builtin; refine wpList_append_src rfl _ _ 24 rfl w.heap.size 3 i0 (.int .i64 0) 8 Tryz.underlying24 hi hz0 hz1 hz2 rfl _ _ _ rfl o1.out _ _ rfl s1.out (oneCellI _) (by simp only [List.length_map, List.length_append, List.length_take, List.length_drop, List.length_cons, List.length_nil, List.length_singleton]; unfold maxLen; omega) (by simp only [List.length_map, List.length_append, List.length_take, List.length_drop, List.length_cons, List.length_nil, List.length_singleton]; omega) b1.out.size ?_; intro v2 w2 ho2 hg2; have o2 := Lib.hid (ownI_of_row (l := o ++ [(x.toNat : Int)]) ho2 (by (try simp); try omega) (by (try simp); try omega)); have b2 := Lib.hid (below_row b1.out hg2 b1.out.size o1.out (Nat.le_refl _)); clear ho2 hg2)
      go_roundg (l.length - (k + 1))
      case measure => omega
      case rel => exact ⟨k + 1, by omega, by go_num, rfl, by rw [hsn.out]; exact o2.out, b2.out⟩
    · obtain rfl : k = l.length := by omega
      have hlt' : decide ((l.length : Int) < (l.length : Int)) = false := by simp
      rw [List.take_length] at hown
      replace hown := Lib.hid hown
      replace hbel := Lib.hid hbel
      go_wp2_with fail
      go_ret
      exact ⟨_, rfl, hown.out, hbel.out⟩
end Go.Proofs.YtiidjkhkcckmkaaGreatDoor

/- Layer 15: a machine that a call tells, in a box of nine cells of whatever type. -/
namespace Go.Proofs.YtiidjkhkcckmkaaGreatDoor
set_option linter.unusedSimpArgs false
set_option linter.unusedVariables false
open Go.RowKit Go.Lib
open Mch (MS)
theorem off_own {B j : Nat} {v : Value} {l : List Int} {w : World} (h : OwnI B v l w) (hj : j < B) : OffV j v := fun e => by
  have := ownI_lt h j e
  omega
theorem off_nil (j : Nat) : OffV j (.slice none 0 0) := fun e => by cases e
theorem own_box9 {B k : Nat} {v : Value} {l : List Int} {w : World} {cs : Array Value} {T : TypeId} (h : OwnI B v l w) (hb : Blk w k cs T) (hT : T ≠ 3 := by decide) : v.ownBlock ≠ some k := by
  intro e
  rcases h.2 with ⟨rfl, _⟩ | ⟨g, cap, cur, rfl, _, hg, _⟩
  · cases e
  · cases e
    unfold Blk at hb
    rw [hb] at hg
    injection hg with hg
    injection hg with _ hg
    exact absurd hg hT
theorem own_but {B k : Nat} {v : Value} {l : List Int} {w w1 : World} (h : OwnI B v l w) (hs : SameBut (fun j => j = k) w w1) (hne : v.ownBlock ≠ some k) : OwnI B v l w1 := by
  refine ⟨h.1, ?_⟩
  rcases h.2 with hn | ⟨g, cap, cur, rfl, hg, hh, r⟩
  · exact .inl hn
  · refine .inr ⟨g, cap, cur, rfl, hg, ?_, r⟩
    rw [hs.2 g (Array.getElem?_eq_some_iff.1 hh).1 (fun e => hne (by rw [e.symm]; rfl))]
    exact hh
theorem fed_done {v vn vg vc vt : Value} {q : MS × List Int} {w W : World} {k : Nat} {z0 z1 z2 z3 z4 z5 z6 z7 z8 : Value} {T : TypeId} (hr : Blk W k #[z0, z1, z2, z3, z4, z5, z6, z7, z8] T) (hk : w.heap.size ≤ k)
    (hn : OwnI w.heap.size vn q.1.n W) (hg : OwnI w.heap.size vg q.1.g W) (hc : OwnI w.heap.size vc q.1.c W) (ht : OwnI w.heap.size vt q.2 W) (hb : Below w.heap.size w W) (hT : T ≠ 3 := by decide) :
    FedM v q w (.returned (.tuple #[mchV q.1 vn vg vc, vt])) (set9 W k (.int .i64 q.1.kind) (strV q.1.d) vn vg (.bool q.1.s.on) (.int .i64 q.1.s.kind) (.bool q.1.s.pict) (.bool q.1.s.odd) vc) := by
  have hs := same_set9 W k (.int .i64 q.1.kind) (strV q.1.d) vn vg (.bool q.1.s.on) (.int .i64 q.1.s.kind) (.bool q.1.s.pict) (.bool q.1.s.odd) vc
  have go := fun (u : Value) (l : List Int) (h : OwnI w.heap.size u l W) => own_but h hs (own_box9 h hr hT)
  exact ⟨_, _, rfl, ⟨vn, vg, vc, rfl, ri_of_own (go _ _ hn), ri_of_own (go _ _ hg), ri_of_own (go _ _ hc)⟩, ri_of_own (go _ _ ht), fun j hj _ => ⟨(offM_iff j q.1 vn vg vc).2 ⟨off_own hn hj, off_own hg hj, off_own hc hj⟩, off_own ht hj⟩, below_set9 hb hk _ _ _ _ _ _ _ _ _⟩
theorem fed_same {v vn vg vc : Value} {m : MS} {w W : World} {k : Nat} {z0 z1 z2 z3 z4 z5 z6 z7 z8 : Value} {T : TypeId} (hr : Blk W k #[z0, z1, z2, z3, z4, z5, z6, z7, z8] T) (hk : w.heap.size ≤ k) (hv : v = mchV m vn vg vc) (hm : RM w v m) (hb : Below w.heap.size w W) :
    FedM v (m, []) w (.returned (.tuple #[mchV m vn vg vc, .slice none 0 0])) (set9 W k (.int .i64 m.kind) (strV m.d) vn vg (.bool m.s.on) (.int .i64 m.s.kind) (.bool m.s.pict) (.bool m.s.odd) vc) := by
  have hbs := below_set9 hb hk (.int .i64 m.kind) (strV m.d) vn vg (.bool m.s.on) (.int .i64 m.s.kind) (.bool m.s.pict) (.bool m.s.odd) vc
  subst hv
  exact ⟨_, _, rfl, rm_below hm hbs, .inl ⟨rfl, rfl⟩, fun j _ h => ⟨h, off_nil j⟩, hbs⟩
def At15 (w : World) (k : Nat) (v u : Value) : Prop := (∀ j, j < w.heap.size → OffM j v → OffV j u) ∧ OffV k u
theorem at_own {w W : World} {k : Nat} {v u : Value} {l : List Int} {cs : Array Value} {T : TypeId} (h : OwnI w.heap.size u l W) (hk : Blk W k cs T) (hT : T ≠ 3 := by decide) : At15 w k v u :=
  ⟨fun j hj _ => off_own h hj, fun e => absurd e (own_box9 h hk hT)⟩
theorem at_nil (w : World) (k : Nat) (v : Value) : At15 w k v (.slice none 0 0) := ⟨fun j _ _ => off_nil j, off_nil k⟩
theorem at_old {w : World} {k : Nat} {v u : Value} {m : MS} (h : ∀ j, OffM j v → OffV j u) (hm : RM w v m) (hk : w.heap.size ≤ k) : At15 w k v u := ⟨fun j _ h' => h j h', h k (rm_off hm hk)⟩
theorem fed_gen {v vn vg vc vt : Value} {q : MS × List Int} {w W : World} {k : Nat} {z0 z1 z2 z3 z4 z5 z6 z7 z8 : Value} {T : TypeId} (hr : Blk W k #[z0, z1, z2, z3, z4, z5, z6, z7, z8] T) (hk : w.heap.size ≤ k)
    (hn : RI W vn q.1.n ∧ At15 w k v vn) (hg : RI W vg q.1.g ∧ At15 w k v vg) (hc : RI W vc q.1.c ∧ At15 w k v vc) (ht : RI W vt q.2 ∧ At15 w k v vt) (hb : Below w.heap.size w W) :
    FedM v q w (.returned (.tuple #[mchV q.1 vn vg vc, vt])) (set9 W k (.int .i64 q.1.kind) (strV q.1.d) vn vg (.bool q.1.s.on) (.int .i64 q.1.s.kind) (.bool q.1.s.pict) (.bool q.1.s.odd) vc) := by
  have hs := same_set9 W k (.int .i64 q.1.kind) (strV q.1.d) vn vg (.bool q.1.s.on) (.int .i64 q.1.s.kind) (.bool q.1.s.pict) (.bool q.1.s.odd) vc
  have go := fun (u : Value) (l : List Int) (h : RI W u l ∧ At15 w k v u) => ri_but h.1 hs (fun j e => e ▸ h.2.2)
  exact ⟨_, _, rfl, ⟨vn, vg, vc, rfl, go _ _ hn, go _ _ hg, go _ _ hc⟩, go _ _ ht, fun j hj hv => ⟨(offM_iff j q.1 vn vg vc).2 ⟨hn.2.1 j hj hv, hg.2.1 j hj hv, hc.2.1 j hj hv⟩, ht.2.1 j hj hv⟩, below_set9 hb hk _ _ _ _ _ _ _ _ _⟩
theorem blk_but9 {w : World} {k j : Nat} {cs : Array Value} {T : TypeId} (h : Blk w j cs T) (hj : j ≠ k) (x0 x1 x2 x3 x4 x5 x6 x7 x8 : Value) : Blk (set9 w k x0 x1 x2 x3 x4 x5 x6 x7 x8) j cs T := (set9_block w k x0 x1 x2 x3 x4 x5 x6 x7 x8 j hj).trans h
theorem held5_15 {w : World} {k : Nat} {a b c d e : Value} {T : TypeId} (h : Blk w k #[a, b, c, d, e] T) : w.cell? ⟨k, 0, none⟩ = some a ∧ w.cell? ⟨k, 1, none⟩ = some b ∧ w.cell? ⟨k, 2, none⟩ = some c ∧ w.cell? ⟨k, 3, none⟩ = some d ∧ w.cell? ⟨k, 4, none⟩ = some e :=
  ⟨blk_cell h 0 _ rfl, blk_cell h 1 _ rfl, blk_cell h 2 _ rfl, blk_cell h 3 _ rfl, blk_cell h 4 _ rfl⟩
theorem ri_nil15 (w : World) : RI w (.slice none 0 0) [] := .inl ⟨rfl, rfl⟩
theorem byte_of (x : Int) : IntKind.u8.wrap (x % 256) = ((Mch.byteOf x).toNat : Int) := by
  unfold Mch.byteOf
  have h0 : 0 ≤ x % 256 := Int.emod_nonneg _ (by decide)
  have h1 : x % 256 < 256 := Int.emod_lt_of_pos _ (by decide)
  have e : (UInt8.ofNat (x % 256).toNat).toNat = (x % 256).toNat := by
    rw [UInt8.toNat_ofNat']
    exact Nat.mod_eq_of_lt (by omega)
  rw [e]
  have hw : IntKind.u8.wrap (x % 256) = x % 256 := by
    have : IntKind.u8.wrap (x % 256) = (x % 256) % 256 := by rfl
    rw [this]
    omega
  rw [hw]
  omega
theorem byte_wrap15 (x : Int) : IntKind.u8.wrap x = ((Mch.byteOf x).toNat : Int) := by
  rw [← byte_of x]
  show x % 256 = (x % 256) % 256
  omega
end Go.Proofs.YtiidjkhkcckmkaaGreatDoor

/- Layer 15: lemmas of the loops over a machine. -/
namespace Go.Proofs.YtiidjkhkcckmkaaGreatDoor
set_option linter.unusedSimpArgs false
set_option linter.unusedVariables false
open Go.RowKit Go.Lib
open Mch (MS)
theorem ownI_but {B : Nat} {J : Nat → Prop} {v : Value} {l : List Int} {w w1 : World} (h : OwnI B v l w) (hs : SameBut J w w1) (ho : ∀ j, J j → v.ownBlock ≠ some j) : OwnI B v l w1 := by
  refine ⟨h.1, ?_⟩
  rcases h.2 with hn | ⟨g, cap, cur, rfl, hg, hh, r⟩
  · exact .inl hn
  · refine .inr ⟨g, cap, cur, rfl, hg, ?_, r⟩
    rw [hs.2 g (Array.getElem?_eq_some_iff.1 hh).1 (fun hJ => ho g hJ rfl)]
    exact hh
theorem Mch.feeds_snoc (m : MS) (l : List Int) (x : Int) : Mch.feedsM m (l ++ [x]) = ((Mch.feedM (Mch.feedsM m l).1 x).1, (Mch.feedsM m l).2 ++ (Mch.feedM (Mch.feedsM m l).1 x).2) := by
  rw [Mch.feeds_app]
  simp [Mch.feedsM]
theorem Mch.feeds_sane (k : Int) (l : List Int) : Mch.saneM (Mch.feedsM (Mch.newM k) l).1 = true := by
  have : ∀ (l : List Int) (m : MS), Mch.saneM m = true → Mch.saneM (Mch.feedsM m l).1 = true := by
    intro l
    induction l with
    | nil => exact fun m h => h
    | cons x t ih => exact fun m h => ih _ (Mch.feed_sane m x).1
  exact this l _ (Mch.new_sane k)
theorem rm_drew {w : World} {v : Value} {m : MS} (h : RM w v m) : RM w.drew v m := h
theorem tabs_drew15 {w : World} (h : Tabs w) : Tabs w.drew := tabs_next h (Below.refl _ _).drew
theorem off_lies {v v5 va : Value} {W : World} {m : MS} (hl : Lies v5 v W) (h : ∀ j, v.ownBlock = some j → OffM j va) (hr : RM W va m) : ∀ j, v5.ownBlock = some j → OffM j va := by
  intro j e
  rcases hl with h1 | ⟨k, h1, h2⟩
  · exact h j (h1 ▸ e)
  · rw [h1] at e
    cases e
    exact rm_off hr h2
def Fed15 (T : TypeId) (bS : Nat) (w0 : World) (q : MS × List Int) (vo : Value) (wr : World) : Prop :=
  ∃ pn cn pg cg pc cc, Blk wr bS (cellsM q.1.kind ⟨q.1.d.toArray⟩ pn q.1.n.length cn pg q.1.g.length cg q.1.s.on q.1.s.kind q.1.s.pict q.1.s.odd pc q.1.c.length cc) T
    ∧ RM wr (.agg (cellsM q.1.kind ⟨q.1.d.toArray⟩ pn q.1.n.length cn pg q.1.g.length cg q.1.s.on q.1.s.kind q.1.s.pict q.1.s.odd pc q.1.c.length cc)) q.1
    ∧ OffM bS (.agg (cellsM q.1.kind ⟨q.1.d.toArray⟩ pn q.1.n.length cn pg q.1.g.length cg q.1.s.on q.1.s.kind q.1.s.pict q.1.s.odd pc q.1.c.length cc))
    ∧ (∀ j, vo.ownBlock = some j → OffM j (.agg (cellsM q.1.kind ⟨q.1.d.toArray⟩ pn q.1.n.length cn pg q.1.g.length cg q.1.s.on q.1.s.kind q.1.s.pict q.1.s.odd pc q.1.c.length cc)))
    ∧ OwnI (bS + 1) vo q.2 wr ∧ Below bS w0 wr
end Go.Proofs.YtiidjkhkcckmkaaGreatDoor

