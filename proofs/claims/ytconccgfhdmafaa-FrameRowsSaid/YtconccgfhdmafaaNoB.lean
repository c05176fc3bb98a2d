/- Layer 9: states in boxes: blocks of one cell, stores into them, what a value fed leaves. -/
import Derived.Test.YtconccgfhdmafaaNoM
import Derived.Test.YtconccgfhdmafaaBasP
import Derived.Deep.RegionHeld3
namespace Go.Proofs.Ytconccgfhdmafaa
set_option linter.unusedSimpArgs false
set_option linter.unusedVariables false
open Go.RowKit Go.Lib

/-- a store into a block of one cell that holds no number leaves what reads as numbers -/
theorem ri_store {w : World} {v : Value} {l : List Int} {k : Nat} {x : Value} {T : TypeId} (h : RI w v l) (hk : Blk w k #[x] T) (hx : ∀ n, x ≠ .int .i64 n) (u : Value) : RI (w.setCell ⟨k, 0, none⟩ u) v l := by
  rcases h with h | ⟨a, c, rfl, hcap, h⟩
  · exact .inl h
  · refine .inr ⟨a, c, rfl, hcap, fun hl => ?_⟩
    obtain ⟨b, o, rfl, h1, h2⟩ := h hl
    have hne : b ≠ k := by
      intro e
      subst e
      have h0 := h2 0 hl
      rw [Nat.add_zero] at h0
      cases o with
      | zero =>
        rw [blk_cell hk 0 x rfl] at h0
        exact hx _ (by simpa using h0)
      | succ o =>
        unfold Blk at hk
        simp [World.cell?, hk] at h0
    refine ⟨b, o, rfl, by simpa using h1, fun i hi => ?_⟩
    rw [World.cell?_setCell_other]
    · exact h2 i hi
    · intro e
      exact hne (congrArg Addr.block e).symm

theorem no_slice (p : Option Addr) (n c : Nat) : ∀ m, Value.slice p n c ≠ .int .i64 m := fun _ h => by cases h

theorem blk_set {w : World} {k : Nat} {x u : Value} {T : TypeId} (h : Blk w k #[x] T) : Blk (w.setCell ⟨k, 0, none⟩ u) k #[u] T := by
  have := heap_setCell_same w k 0 #[x] T u h
  unfold Blk
  simpa using this
theorem blk_other {w : World} {k j : Nat} {cs : Array Value} {u : Value} {T : TypeId} (h : Blk w k cs T) (hne : j ≠ k) : Blk (w.setCell ⟨j, 0, none⟩ u) k cs T := by
  unfold Blk at *
  rw [heap_setCell_other w ⟨j, 0, none⟩ k u (fun e => hne e.symm)]
  exact h

theorem own_apart {B : Nat} {va vo : Value} {q o : List Int} {wr w5 : World} (ha : OwnI wr.heap.size va q w5) (ho : OwnI B vo o wr) : va.ownBlock = none ∨ va.ownBlock ≠ vo.ownBlock := by
  cases h : va.ownBlock with
  | none => exact .inl rfl
  | some k =>
    refine .inr fun e => ?_
    have h1 := (World.ownsRow.lt ha k h).1
    have h2 := (World.ownsRow.lt ho k e.symm).2
    omega

theorem run_snoc (l a : List Int) (d : Int) : Nor.runI l (a ++ [d]) = ((Nor.putI (Nor.runI l a).1 d).1, (Nor.runI l a).2 ++ (Nor.putI (Nor.runI l a).1 d).2) := by
  rw [Nor.run_app]
  simp [Nor.runI]

theorem blk_grown {w w1 : World} {k : Nat} {cs : Array Value} {T : TypeId} {row : Option Nat} (h : Blk w k cs T) (hg : w.grownBy w1 row) (hne : some k ≠ row) : Blk w1 k cs T := by
  unfold Blk at *
  rw [hg.block k (blk_lt h) hne]
  exact h

theorem own_not {B k : Nat} {v : Value} {l : List Int} {w : World} (h : OwnI B v l w) (hk : k < B) : some k ≠ v.ownBlock := fun e => by
  have := (World.ownsRow.lt h k e.symm).1
  omega

theorem feeds_snoc (a : List Int) (r : Int) : Nor.feedsI [] (a ++ [r]) = ((Nor.feedI (Nor.feedsI [] a).1 r).1, (Nor.feedsI [] a).2 ++ (Nor.feedI (Nor.feedsI [] a).1 r).2) := by
  rw [Nor.feeds_app]
  simp [Nor.feedsI]

theorem held_at {w w1 : World} {a b : Addr} {u v : Value} (hb : Below w.heap.size w w1) (h : w.cell? a = some u ∧ w.cell? b = some v) : w1.cell? a = some u ∧ w1.cell? b = some v :=
  ⟨by rw [hb.cell (World.block_lt_of_cell? _ _ h.1)]; exact h.1, by rw [hb.cell (World.block_lt_of_cell? _ _ h.2)]; exact h.2⟩
theorem held_set {w : World} {a b p : Addr} {u v x : Value} (h : w.cell? a = some u ∧ w.cell? b = some v) (ha : a.block ≠ p.block) (hb : b.block ≠ p.block) : (w.setCell p x).cell? a = some u ∧ (w.setCell p x).cell? b = some v := by
  rw [World.cell?_setCell_other _ _ _ _ (fun e => ha (by rw [e])), World.cell?_setCell_other _ _ _ _ (fun e => hb (by rw [e]))]
  exact h
theorem held_drew {w : World} {a b : Addr} {u v : Value} (h : w.cell? a = some u ∧ w.cell? b = some v) : w.drew.cell? a = some u ∧ w.drew.cell? b = some v := h
theorem ri_drew {w : World} {v : Value} {l : List Int} (h : RI w v l) : RI w.drew v l := h

/-- behind a value that was fed: the new state in a box of its own, what it told -/
def Mid9 (T : TypeId) (wq : World) (q : List Int × List Int) (u t : Value) (wx : World) : Prop :=
  ∃ (bt : Nat) (va : Value), u = .pointer (some ⟨bt, 0, none⟩) ∧ wq.heap.size ≤ bt ∧ Blk wx bt #[va] T ∧ OwnI wq.heap.size va q.1 wx ∧ RI wx t q.2 ∧ Below wq.heap.size wq wx

theorem mid9_of {T : TypeId} {wq wz : World} {q : List Int × List Int} {bt : Nat} {va t : Value} (h1 : wq.heap.size ≤ bt) (h2 : Blk wz bt #[.slice none 0 0] T) (h3 : OwnI wq.heap.size va q.1 wz) (h4 : va.ownBlock = none ∨ va.ownBlock ≠ some bt) (h5 : RI wz t q.2) (h6 : Below wq.heap.size wq wz) :
    Mid9 T wq q (.pointer (some ⟨bt, 0, none⟩)) t (wz.setCell ⟨bt, 0, none⟩ va) :=
  ⟨bt, va, rfl, h1, blk_set h2, ownI_set h3 _ _ h4, ri_store h5 h2 (no_slice _ _ _) va, h6.setCell h1 _⟩

theorem mid9_first {T : TypeId} {wq w2 : World} {q : List Int × List Int} {va t : Value} (ha : OwnI (wq.alloc (.cells #[.slice none 0 0] T)).drew.heap.size va q.1 w2) (ht : RI w2 t q.2) (hb2 : Below (wq.alloc (.cells #[.slice none 0 0] T)).drew.heap.size (wq.alloc (.cells #[.slice none 0 0] T)).drew w2) :
    Mid9 T wq q (.pointer (some ⟨wq.heap.size, 0, none⟩)) t (w2.setCell ⟨wq.heap.size, 0, none⟩ va) := by
  have hA : Below wq.heap.size wq (wq.alloc (.cells #[.slice none 0 0] T)).drew := ((Below.refl _ _).alloc (Nat.le_refl _) _).drew
  have hlt : wq.heap.size < (wq.alloc (.cells #[.slice none 0 0] T)).drew.heap.size := by simp
  exact mid9_of (Nat.le_refl _) (blk_below (w := (wq.alloc (.cells #[.slice none 0 0] T)).drew) (blk_new wq _ T) hb2) (ownI_mono ha (Nat.le_of_lt hlt)) (ownI_ne ha hlt) ht (hA.trans (hb2.mono hA.size))

theorem mid9_last {T : TypeId} {wq w2 : World} {q : List Int × List Int} {va t : Value} (ha : OwnI wq.drew.heap.size va q.1 w2) (ht : RI w2 t q.2) (hb2 : Below wq.drew.heap.size wq.drew w2) :
    Mid9 T wq q (.pointer (some ⟨w2.heap.size, 0, none⟩)) t (w2.alloc (.cells #[va] T)) := by
  have hA : Below wq.heap.size wq w2 := (Below.refl _ _).drew.trans hb2
  exact ⟨w2.heap.size, va, rfl, hA.size, blk_new w2 _ T, ownI_alloc ha _, ri_below ht (below_new w2 _), hA.alloc hA.size _⟩

end Go.Proofs.Ytconccgfhdmafaa
