/- Layer 15: behind an item that was fed: the new machine in a box of its own, what it told. -/
import Derived.Test.YtiidjkhkcckmkaaGreatDoorMaQ
import Derived.Test.YtiidjkhkcckmkaaGreatDoorBasP
import Derived.Deep.RegionHeld3
namespace Go.Proofs.YtiidjkhkcckmkaaGreatDoor
set_option linter.unusedSimpArgs false
set_option linter.unusedVariables false
open Go.RowKit Go.Lib
open Mch (MS)
theorem blk_setAt15 {w : World} {k : Nat} {cs : Array Value} {T : TypeId} (h : Blk w k cs T) (i : Nat) (u : Value) : Blk (w.setCell ⟨k, i, none⟩ u) k (cs.setIfInBounds i u) T := by
  have := heap_setCell_same w k i cs T u h
  unfold Blk
  simpa using this
theorem blk_set9 {w : World} {k : Nat} {z0 z1 z2 z3 z4 z5 z6 z7 z8 : Value} {T : TypeId} (h : Blk w k #[z0, z1, z2, z3, z4, z5, z6, z7, z8] T) (x0 x1 x2 x3 x4 x5 x6 x7 x8 : Value) : Blk (set9 w k x0 x1 x2 x3 x4 x5 x6 x7 x8) k #[x0, x1, x2, x3, x4, x5, x6, x7, x8] T := by
  have h1 : Blk (w.setCell ⟨k, 0, none⟩ x0) k #[x0, z1, z2, z3, z4, z5, z6, z7, z8] T := by simpa using blk_setAt15 h 0 x0
  have h2 : Blk ((w.setCell ⟨k, 0, none⟩ x0).setCell ⟨k, 1, none⟩ x1) k #[x0, x1, z2, z3, z4, z5, z6, z7, z8] T := by simpa using blk_setAt15 h1 1 x1
  have h3 : Blk (((w.setCell ⟨k, 0, none⟩ x0).setCell ⟨k, 1, none⟩ x1).setCell ⟨k, 2, none⟩ x2) k #[x0, x1, x2, z3, z4, z5, z6, z7, z8] T := by simpa using blk_setAt15 h2 2 x2
  have h4 : Blk ((((w.setCell ⟨k, 0, none⟩ x0).setCell ⟨k, 1, none⟩ x1).setCell ⟨k, 2, none⟩ x2).setCell ⟨k, 3, none⟩ x3) k #[x0, x1, x2, x3, z4, z5, z6, z7, z8] T := by simpa using blk_setAt15 h3 3 x3
  have h5 : Blk (((((w.setCell ⟨k, 0, none⟩ x0).setCell ⟨k, 1, none⟩ x1).setCell ⟨k, 2, none⟩ x2).setCell ⟨k, 3, none⟩ x3).setCell ⟨k, 4, none⟩ x4) k #[x0, x1, x2, x3, x4, z5, z6, z7, z8] T := by simpa using blk_setAt15 h4 4 x4
  have h6 : Blk ((((((w.setCell ⟨k, 0, none⟩ x0).setCell ⟨k, 1, none⟩ x1).setCell ⟨k, 2, none⟩ x2).setCell ⟨k, 3, none⟩ x3).setCell ⟨k, 4, none⟩ x4).setCell ⟨k, 5, none⟩ x5) k #[x0, x1, x2, x3, x4, x5, z6, z7, z8] T := by simpa using blk_setAt15 h5 5 x5
  have h7 : Blk (((((((w.setCell ⟨k, 0, none⟩ x0).setCell ⟨k, 1, none⟩ x1).setCell ⟨k, 2, none⟩ x2).setCell ⟨k, 3, none⟩ x3).setCell ⟨k, 4, none⟩ x4).setCell ⟨k, 5, none⟩ x5).setCell ⟨k, 6, none⟩ x6) k #[x0, x1, x2, x3, x4, x5, x6, z7, z8] T := by simpa using blk_setAt15 h6 6 x6
  have h8 : Blk ((((((((w.setCell ⟨k, 0, none⟩ x0).setCell ⟨k, 1, none⟩ x1).setCell ⟨k, 2, none⟩ x2).setCell ⟨k, 3, none⟩ x3).setCell ⟨k, 4, none⟩ x4).setCell ⟨k, 5, none⟩ x5).setCell ⟨k, 6, none⟩ x6).setCell ⟨k, 7, none⟩ x7) k #[x0, x1, x2, x3, x4, x5, x6, x7, z8] T := by simpa using blk_setAt15 h7 7 x7
  have h9 : Blk (((((((((w.setCell ⟨k, 0, none⟩ x0).setCell ⟨k, 1, none⟩ x1).setCell ⟨k, 2, none⟩ x2).setCell ⟨k, 3, none⟩ x3).setCell ⟨k, 4, none⟩ x4).setCell ⟨k, 5, none⟩ x5).setCell ⟨k, 6, none⟩ x6).setCell ⟨k, 7, none⟩ x7).setCell ⟨k, 8, none⟩ x8) k #[x0, x1, x2, x3, x4, x5, x6, x7, x8] T := by simpa using blk_setAt15 h8 8 x8
  exact h9
theorem below_set9 {B : Nat} {w0 w : World} (h : Below B w0 w) {k : Nat} (hk : B ≤ k) (x0 x1 x2 x3 x4 x5 x6 x7 x8 : Value) : Below B w0 (set9 w k x0 x1 x2 x3 x4 x5 x6 x7 x8) := by
  unfold set9
  exact (Below.setCell (Below.setCell (Below.setCell (Below.setCell (Below.setCell (Below.setCell (Below.setCell (Below.setCell (Below.setCell h (p := ⟨k, 0, none⟩) hk x0) (p := ⟨k, 1, none⟩) hk x1) (p := ⟨k, 2, none⟩) hk x2) (p := ⟨k, 3, none⟩) hk x3) (p := ⟨k, 4, none⟩) hk x4) (p := ⟨k, 5, none⟩) hk x5) (p := ⟨k, 6, none⟩) hk x6) (p := ⟨k, 7, none⟩) hk x7) (p := ⟨k, 8, none⟩) hk x8)
def Mid15 (T : TypeId) (wq : World) (vs : Value) (q : MS × List Int) (u t : Value) (wx : World) : Prop :=
  ∃ (bt : Nat) (va : Value) (cs : Array Value), u = .pointer (some ⟨bt, 0, none⟩) ∧ wq.heap.size ≤ bt ∧ va = .agg cs ∧ Blk wx bt cs T ∧ RM wx va q.1 ∧ RI wx t q.2 ∧ (∀ j, j < wq.heap.size → OffM j vs → OffM j va ∧ OffV j t) ∧ OffM bt va ∧ OffV bt t ∧ Below wq.heap.size wq wx
theorem mid15_last {T : TypeId} {wq w2 : World} {vs vb : Value} {q : MS × List Int} {cs : Array Value} (ha : RM w2 (.agg cs) q.1) (ht : RI w2 vb q.2) (ho : ∀ j, j < wq.drew.heap.size → OffM j vs → OffM j (.agg cs) ∧ OffV j vb) (hb2 : Below wq.drew.heap.size wq.drew w2) :
    Mid15 T wq vs q (.pointer (some ⟨w2.heap.size, 0, none⟩)) vb (w2.alloc (.cells cs T)) := by
  have hA : Below wq.heap.size wq w2 := (Below.refl _ _).drew.trans hb2
  have hn := below_new w2 (.cells cs T)
  exact ⟨w2.heap.size, _, cs, rfl, hA.size, rfl, blk_new w2 _ _, rm_below ha hn, ri_below ht hn, ho, rm_off ha (Nat.le_refl _), ri_off ht (Nat.le_refl _), hA.alloc hA.size _⟩
theorem mid15_first {T : TypeId} {wq w2 : World} {vs vb : Value} {m : MS} {q : MS × List Int} {z0 z1 z2 z3 z4 z5 z6 z7 z8 x0 x1 x2 x3 x4 x5 x6 x7 x8 : Value} (hv : RM wq vs m) (ha : RM w2 (.agg #[x0, x1, x2, x3, x4, x5, x6, x7, x8]) q.1) (ht : RI w2 vb q.2)
    (ho : ∀ j, j < (wq.alloc (.cells #[z0, z1, z2, z3, z4, z5, z6, z7, z8] T)).drew.heap.size → OffM j vs → OffM j (.agg #[x0, x1, x2, x3, x4, x5, x6, x7, x8]) ∧ OffV j vb) (hb2 : Below (wq.alloc (.cells #[z0, z1, z2, z3, z4, z5, z6, z7, z8] T)).drew.heap.size (wq.alloc (.cells #[z0, z1, z2, z3, z4, z5, z6, z7, z8] T)).drew w2) :
    Mid15 T wq vs q (.pointer (some ⟨wq.heap.size, 0, none⟩)) vb (set9 w2 wq.heap.size x0 x1 x2 x3 x4 x5 x6 x7 x8) := by
  have hA : Below wq.heap.size wq (wq.alloc (.cells #[z0, z1, z2, z3, z4, z5, z6, z7, z8] T)).drew := ((Below.refl _ _).alloc (Nat.le_refl _) _).drew
  have hlt : wq.heap.size < (wq.alloc (.cells #[z0, z1, z2, z3, z4, z5, z6, z7, z8] T)).drew.heap.size := by simp
  have hblk : Blk w2 wq.heap.size #[z0, z1, z2, z3, z4, z5, z6, z7, z8] T := blk_below (w := (wq.alloc (.cells #[z0, z1, z2, z3, z4, z5, z6, z7, z8] T)).drew) (blk_new wq _ _) hb2
  obtain ⟨o1, o2⟩ := ho wq.heap.size hlt (rm_off hv (Nat.le_refl _))
  have hs := same_set9 w2 wq.heap.size x0 x1 x2 x3 x4 x5 x6 x7 x8
  exact ⟨wq.heap.size, _, _, rfl, Nat.le_refl _, rfl, blk_set9 hblk x0 x1 x2 x3 x4 x5 x6 x7 x8, rm_but ha hs (fun j e => e ▸ o1), ri_but ht hs (fun j e => e ▸ o2), (fun j hj => ho j (Nat.lt_trans hj hlt)), o1, o2, below_set9 (hA.trans (hb2.mono hA.size)) (Nat.le_refl _) x0 x1 x2 x3 x4 x5 x6 x7 x8⟩
end Go.Proofs.YtiidjkhkcckmkaaGreatDoor
