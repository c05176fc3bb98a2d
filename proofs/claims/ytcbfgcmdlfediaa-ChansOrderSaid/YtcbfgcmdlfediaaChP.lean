/- Layer 16: what holds of a channel, what was put and taken, at each step of ChansOrder. -/
import Derived.Test.YtcbfgcmdlfediaaChO
import Derived.Test.YtcbfgcmdlfediaaChW2
import Derived.Test.YtcbfgcmdlfediaaChW3
import Derived.Test.YtcbfgcmdlfediaaKP
namespace Go.Proofs.Ytcbfgcmdlfediaa
set_option linter.unusedSimpArgs false
set_option linter.unusedVariables false
open Go.RowKit Go.Lib
open Stg (Ch)
theorem inv_put {c q : Ch} {b inn out : List Int} {ok : Bool} (hs : Stg.saneC c = true) (he : inn = out ++ c.L.flatten) (h : Stg.putC c b = (q, ok)) :
    Stg.saneC q = true ∧ (ok = true → inn ++ b = out ++ q.L.flatten) ∧ (ok = false → inn = out ++ q.L.flatten) := by
  have hq : Stg.saneC q = true := by have := Stg.put_sane c b; rw [h] at this; exact this
  refine ⟨hq, fun e => ?_, fun e => ?_⟩
  · subst e
    unfold Stg.putC at h
    split at h
    · have e : q = ⟨(Stg.asC c).L ++ [b], false⟩ := (congrArg Prod.fst h).symm
      rw [e, Stg.asC_same hs, he]
      simp
    · simp at h
  · subst e
    rw [put_not h, Stg.asC_same hs]
    exact he
theorem inv_take {c q : Ch} {l inn out : List Int} {ok : Bool} (hs : Stg.saneC c = true) (he : inn = out ++ c.L.flatten) (h : Stg.takeC c = (q, l, ok)) :
    Stg.saneC q = true ∧ inn = (out ++ l) ++ q.L.flatten := by
  have hq : Stg.saneC q = true := by have := Stg.take_sane c; rw [h] at this; exact this
  refine ⟨hq, ?_⟩
  cases ok with
  | true => rw [he, ← Stg.asC_same hs, (take_yes h).1]; simp
  | false => obtain ⟨h1, h2, _⟩ := take_not h; rw [h1, h2, Stg.asC_same hs]; simpa using he
theorem inv_count {c : Ch} {inn out : List Int} (hs : Stg.saneC c = true) (he : inn = out ++ c.L.flatten) : inn.length = out.length + Stg.countC c := by
  unfold Stg.countC
  rw [he, Stg.asC_same hs, List.length_append]
/-- the box, and the rows that grow -/
def Jo (B : Nat) (vi vo : Value) : Nat → Prop := fun j => j = B ∨ vi.ownBlock = some j ∨ vo.ownBlock = some j
/-- a channel in its box, what was put, what was taken -/
def Ord (B m z : Nat) (w0 : World) (vi vo : Value) (wr : World) : Prop :=
  ∃ (c : Ch) (p : Option Addr) (k : Nat) (inn out : List Int), Blk wr B #[.slice p c.L.length k, .bool c.closed] 28 ∧ RCh (Jo B vi vo) wr (.agg #[.slice p c.L.length k, .bool c.closed]) c ∧ OwnI (B + 1) vi inn wr ∧ OwnI (B + 1) vo out wr
    ∧ (vi.ownBlock = none ∨ vi.ownBlock ≠ vo.ownBlock) ∧ Stg.saneC c = true ∧ inn = out ++ c.L.flatten ∧ inn.length ≤ m ∧ c.L.length ≤ z ∧ Below w0.heap.size w0 wr
theorem jo_old {B : Nat} {vi vo : Value} {inn out : List Int} {w : World} (hB : B < w.heap.size) (hi : OwnI (B + 1) vi inn w) (ho : OwnI (B + 1) vo out w) : Old (Jo B vi vo) w := fun j h => by
  rcases h with rfl | h | h
  · exact hB
  · exact (World.ownsRow.lt hi j h).2
  · exact (World.ownsRow.lt ho j h).2
theorem jo_ge {B : Nat} {vi vo : Value} {inn out : List Int} {w : World} (hi : OwnI (B + 1) vi inn w) (ho : OwnI (B + 1) vo out w) : ∀ j, Jo B vi vo j → B ≤ j := fun j h => by
  rcases h with rfl | h | h
  · exact Nat.le_refl _
  · have := ownI_lt hi j h; omega
  · have := ownI_lt ho j h; omega
/-- behind a call and an alloc, in whichever order: the new channel in a box of its own -/
def Mid16 (J : Nat → Prop) (wq : World) (q : Ch) (u : Value) (wx : World) : Prop :=
  ∃ (bt : Nat) (p : Option Addr) (k : Nat), u = .pointer (some ⟨bt, 0, none⟩) ∧ wq.heap.size ≤ bt ∧ Blk wx bt #[.slice p q.L.length k, .bool q.closed] 28 ∧ RCh J wx (.agg #[.slice p q.L.length k, .bool q.closed]) q ∧ Below wq.heap.size wq wx
theorem mid16_last {J : Nat → Prop} {wq w2 : World} {q : Ch} {p : Option Addr} {k : Nat} (hr : RCh J w2 (.agg #[.slice p q.L.length k, .bool q.closed]) q) (hb : Below wq.drew.heap.size wq.drew w2) : Mid16 J wq q (.pointer (some ⟨w2.heap.size, 0, none⟩)) (w2.alloc (.cells #[.slice p q.L.length k, .bool q.closed] 28)) := by
  have hA : Below wq.heap.size wq w2 := (Below.refl _ _).drew.trans hb
  exact ⟨w2.heap.size, p, k, rfl, hA.size, blk_new w2 _ _, rch_below hr (below_new w2 _), hA.alloc hA.size _⟩
theorem mid16_first {J : Nat → Prop} {wq w2 : World} {q : Ch} {p : Option Addr} {k : Nat} {z0 z1 : Value} (hr : RCh (fun j => J j ∨ j = wq.heap.size) w2 (.agg #[.slice p q.L.length k, .bool q.closed]) q) (hb : Below (wq.alloc (.cells #[z0, z1] 28)).drew.heap.size (wq.alloc (.cells #[z0, z1] 28)).drew w2) :
    Mid16 J wq q (.pointer (some ⟨wq.heap.size, 0, none⟩)) ((w2.setCell ⟨wq.heap.size, 0, none⟩ (.slice p q.L.length k)).setCell ⟨wq.heap.size, 1, none⟩ (.bool q.closed)) := by
  have hA : Below wq.heap.size wq (wq.alloc (.cells #[z0, z1] 28)).drew := ((Below.refl _ _).alloc (Nat.le_refl _) _).drew
  have hblk : Blk w2 wq.heap.size #[z0, z1] 28 := blk_below (w := (wq.alloc (.cells #[z0, z1] 28)).drew) (blk_new wq _ _) hb
  exact ⟨wq.heap.size, p, k, rfl, Nat.le_refl _, blk_setAt16 (blk_setAt16 hblk 0 _) 1 _, rch_mono (rch_but hr (only_set2 _ _ _ _ (.inr rfl))) (fun j _ h => .inl h), below_set2 (hA.trans (hb.mono hA.size)) (Nat.le_refl _) _ _⟩
theorem held3_16 {w w1 : World} {a0 a1 a2 : Addr} {u0 u1 u2 : Value} (hb : Below w.heap.size w w1) (h : w.cell? a0 = some u0 ∧ w.cell? a1 = some u1 ∧ w.cell? a2 = some u2) : w1.cell? a0 = some u0 ∧ w1.cell? a1 = some u1 ∧ w1.cell? a2 = some u2 := ⟨cell_below16 h.1 hb, cell_below16 h.2.1 hb, cell_below16 h.2.2 hb⟩
theorem held3_drew {w : World} {a0 a1 a2 : Addr} {u0 u1 u2 : Value} (h : w.cell? a0 = some u0 ∧ w.cell? a1 = some u1 ∧ w.cell? a2 = some u2) : w.drew.cell? a0 = some u0 ∧ w.drew.cell? a1 = some u1 ∧ w.drew.cell? a2 = some u2 := h
theorem held3_set2 {w : World} {k : Nat} {a0 a1 a2 : Addr} {u0 u1 u2 : Value} (x y : Value) (h : w.cell? a0 = some u0 ∧ w.cell? a1 = some u1 ∧ w.cell? a2 = some u2) (n0 : a0.block ≠ k) (n1 : a1.block ≠ k) (n2 : a2.block ≠ k) :
    ((w.setCell ⟨k, 0, none⟩ x).setCell ⟨k, 1, none⟩ y).cell? a0 = some u0 ∧ ((w.setCell ⟨k, 0, none⟩ x).setCell ⟨k, 1, none⟩ y).cell? a1 = some u1 ∧ ((w.setCell ⟨k, 0, none⟩ x).setCell ⟨k, 1, none⟩ y).cell? a2 = some u2 := by
  have key : ∀ (a : Addr) (u : Value), w.cell? a = some u → a.block ≠ k → ((w.setCell ⟨k, 0, none⟩ x).setCell ⟨k, 1, none⟩ y).cell? a = some u := fun a u hx hn => by
    rw [World.cell?_setCell_other, World.cell?_setCell_other]
    · exact hx
    · exact fun e => hn (congrArg Addr.block e).symm
    · exact fun e => hn (congrArg Addr.block e).symm
  exact ⟨key _ _ h.1 n0, key _ _ h.2.1 n1, key _ _ h.2.2 n2⟩
theorem own_set2 {B k : Nat} {v : Value} {l : List Int} {w : World} (h : OwnI B v l w) (hk : k < B) (x y : Value) : OwnI B v l ((w.setCell ⟨k, 0, none⟩ x).setCell ⟨k, 1, none⟩ y) :=
  row_set16 (row_set16 h ⟨k, 0, none⟩ x hk) ⟨k, 1, none⟩ y hk
/-- a row grows: the channel reads as it did -/
theorem rch_grow {J K : Nat → Prop} {w w1 : World} {v : Value} {c : Ch} {row : Option Nat} (h : RCh J w v c) (hg : w.grownBy w1 row) (hr : ∀ j, row = some j → J j) (hK : ∀ j, j < w.heap.size → K j → J j) : RCh K w1 v c :=
  rch_mono (rch_but (J := fun j => J j ∨ K j) (rch_mono h fun j hj e => e.elim id (hK j hj)) (only_grown hg fun j e => .inl (hr j e))) fun j _ e => .inr e
/-- what was put grows -/
theorem ord_in {B m z : Nat} {w0 wr w1 : World} {vi vi' vo : Value} {c : Ch} {p : Option Addr} {k : Nat} {inn inn' out : List Int} (hb : Blk wr B #[.slice p c.L.length k, .bool c.closed] 28) (hr : RCh (Jo B vi vo) wr (.agg #[.slice p c.L.length k, .bool c.closed]) c) (hi : OwnI (B + 1) vi inn wr) (ho : OwnI (B + 1) vo out wr)
    (ha : vi.ownBlock = none ∨ vi.ownBlock ≠ vo.ownBlock) (hs : Stg.saneC c = true) (he : inn' = out ++ c.L.flatten) (hm : inn'.length ≤ m) (hz : c.L.length ≤ z) (hbel : Below w0.heap.size w0 wr) (hB : w0.heap.size ≤ B) (hi' : OwnI (B + 1) vi' inn' w1) (hg : wr.grownBy w1 vi.ownBlock) (hl : Lies vi' vi wr) : Ord B m z w0 vi' vo w1 := by
  have hlo := fun j (h : vo.ownBlock = some j) => (World.ownsRow.lt ho j h).2
  refine ⟨c, p, k, inn', out, blk_grown16 hb hg (row_off16 hi (Nat.lt_succ_self _)), rch_grow hr hg (fun j e => .inr (.inl e)) (fun j hj h => ?_), hi', World.ownsRow.kept ho hg ?_, ?_, hs, he, hm, hz, below_row hbel hg (Nat.le_trans hB (Nat.le_of_lt (blk_lt hb))) hi (by omega)⟩
  · rcases h with h | h | h
    · exact .inl h
    · rcases hl with h1 | ⟨k1, h1, h2⟩
      · exact .inr (.inl (h1 ▸ h))
      · rw [h1] at h; cases h; omega
    · exact .inr (.inr h)
  · rcases ha with ha | ha
    · cases e : vo.ownBlock with
      | none => exact .inl rfl
      | some j => rw [ha]; exact .inr (by simp)
    · exact .inr (Ne.symm ha)
  · rcases hl with h1 | ⟨k1, h1, h2⟩
    · rw [h1]; exact ha
    · refine .inr fun e => ?_
      have := hlo k1 (by rw [← e, h1])
      omega
/-- what was taken grows -/
theorem ord_out {B m z : Nat} {w0 wr w1 : World} {vi vo vo' : Value} {c : Ch} {p : Option Addr} {k : Nat} {inn out out' : List Int} (hb : Blk wr B #[.slice p c.L.length k, .bool c.closed] 28) (hr : RCh (Jo B vi vo) wr (.agg #[.slice p c.L.length k, .bool c.closed]) c) (hi : OwnI (B + 1) vi inn wr) (ho : OwnI (B + 1) vo out wr)
    (ha : vi.ownBlock = none ∨ vi.ownBlock ≠ vo.ownBlock) (hs : Stg.saneC c = true) (he : inn = out' ++ c.L.flatten) (hm : inn.length ≤ m) (hz : c.L.length ≤ z) (hbel : Below w0.heap.size w0 wr) (hB : w0.heap.size ≤ B) (ho' : OwnI (B + 1) vo' out' w1) (hg : wr.grownBy w1 vo.ownBlock) (hl : Lies vo' vo wr) : Ord B m z w0 vi vo' w1 := by
  have hli := fun j (h : vi.ownBlock = some j) => (World.ownsRow.lt hi j h).2
  refine ⟨c, p, k, inn, out', blk_grown16 hb hg (row_off16 ho (Nat.lt_succ_self _)), rch_grow hr hg (fun j e => .inr (.inr e)) (fun j hj h => ?_), World.ownsRow.kept hi hg ha, ho', ?_, hs, he, hm, hz, below_row hbel hg (Nat.le_trans hB (Nat.le_of_lt (blk_lt hb))) ho (by omega)⟩
  · rcases h with h | h | h
    · exact .inl h
    · exact .inr (.inl h)
    · rcases hl with h1 | ⟨k1, h1, h2⟩
      · exact .inr (.inr (h1 ▸ h))
      · rw [h1] at h; cases h; omega
  · rcases hl with h1 | ⟨k1, h1, h2⟩
    · rw [h1]; exact ha
    · cases e : vi.ownBlock with
      | none => exact .inl rfl
      | some j =>
        refine .inr fun e2 => ?_
        have := hli j e
        rw [h1] at e2
        cases e2
        omega
end Go.Proofs.Ytcbfgcmdlfediaa
