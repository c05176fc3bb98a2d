/- Layer 9: a putter in its box of two cells; putHead. -/
import Derived.Test.YtfmnecknfmgggaaGreatDoorNoA2
namespace Go.Proofs.YtfmnecknfmgggaaGreatDoor
set_option linter.unusedSimpArgs false
set_option linter.unusedVariables false
open Go.RowKit Go.Lib

namespace Nor
open Prp (mrkB cccI)
open Can

theorem insR_past {r : Int} (A C : List Int) (h : ∀ x ∈ A, cccI r < cccI x) : insR r (A ++ C) = A ++ insR r C := by
  induction A with
  | nil => rfl
  | cons x t ih =>
    have hx := h x (List.mem_cons_self ..)
    have h0 := (Prp.ccc_bounds r).1
    rw [List.cons_append, insR, if_pos ⟨(mrk_iff x).2 (by omega), hx⟩, ih fun y hy => h y (List.mem_cons_of_mem _ hy)]
    rfl

/-- where a mark comes to stand -/
theorem ins_cut {l : List Int} {d : Int} {k : Nat} (hk : k ≤ l.length) (h1 : ∀ x ∈ l.drop k, cccI d < cccI x) (h2 : ∀ h : 0 < k, ¬ cccI d < cccI (l[k - 1]'(by omega))) : insI l d = l.take k ++ d :: l.drop k := by
  unfold insI
  have e : l.reverse = (l.drop k).reverse ++ (l.take k).reverse := by rw [← List.reverse_append, List.take_append_drop]
  rw [e, insR_past _ _ (fun x hx => h1 x (List.mem_reverse.1 hx))]
  have : insR d (l.take k).reverse = d :: (l.take k).reverse := by
    cases k with
    | zero => rfl
    | succ k =>
      have h3 := h2 (by omega)
      simp only [Nat.add_sub_cancel] at h3
      have h4 : l.take (k + 1) = l.take k ++ [l[k]'(by omega)] := by rw [List.take_succ_eq_append_getElem (by omega)]
      rw [h4, List.reverse_append, List.reverse_singleton, List.singleton_append, insR, if_neg (fun h => h3 h.2)]
  rw [this]
  simp

theorem head_one9 {l : List Int} {x d : Int} (h : composeI l = [x]) (hx : mrkB x = false) : headI l d = match Par.joinI x d with | some v => ([v], []) | none => ([d], [x]) := by
  unfold headI
  rw [h]
  simp only [if_pos hx]
  cases Par.joinI x d <;> rfl
theorem head_mark9 {l : List Int} {x d : Int} (h : composeI l = [x]) (hx : mrkB x = true) : headI l d = ([d], [x]) := by
  unfold headI
  rw [h]
  simp only [hx, Bool.true_eq_false, if_false]
theorem head_more9 {l : List Int} {d : Int} (h : (composeI l).length ≠ 1) : headI l d = ([d], composeI l) := by
  unfold headI
  split
  · rename_i x e
    rw [e] at h
    simp at h
  · rfl
end Nor

/-- a box of two cells, written into -/
theorem blk_two0 {w : World} {b : Nat} {x y u : Value} {T : TypeId} (h : Blk w b #[x, y] T) : Blk (w.setCell ⟨b, 0, none⟩ u) b #[u, y] T := by
  have := heap_setCell_same w b 0 #[x, y] T u h
  unfold Blk
  simpa using this
theorem blk_two1 {w : World} {b : Nat} {x y u : Value} {T : TypeId} (h : Blk w b #[x, y] T) : Blk (w.setCell ⟨b, 1, none⟩ u) b #[x, u] T := by
  have := heap_setCell_same w b 1 #[x, y] T u h
  unfold Blk
  simpa using this

/-- an own row of numbers is no putter -/
theorem own_off {B b : Nat} {v : Value} {l : List Int} {w : World} {cs : Array Value} (h : OwnI B v l w) (hb : Blk w b cs 44) : v.ownBlock ≠ some b := by
  intro e
  rcases h.2 with ⟨rfl, _⟩ | ⟨g, cap, cur, rfl, _, hg, _⟩
  · cases e
  · cases e
    unfold Blk at hb
    rw [hb] at hg
    injection hg with hg
    injection hg with _ hg
    exact absurd hg (by decide)

theorem own_off' {B b : Nat} {v : Value} {l : List Int} {w : World} {cs : Array Value} (h : OwnI B v l w) (hb : Blk w b cs 44) : v.ownBlock = none ∨ v.ownBlock ≠ some b := .inr (own_off h hb)

/-- a putter in its box, since a world: what is kept, what was told; what lies below B is as it was, and so is one block more (if one is named) -/
structure At9 (B b : Nat) (g : Option Nat) (w0 : World) (l t : List Int) (vl vt : Value) (w : World) : Prop where
  box : Blk w b #[vl, vt] 44
  kept : OwnI B vl l w
  told : OwnI B vt t w
  base : B ≤ b
  apart : vl.ownBlock = none ∨ vl.ownBlock ≠ vt.ownBlock
  off : ∀ j, g = some j → vl.ownBlock ≠ some j ∧ vt.ownBlock ≠ some j ∧ b ≠ j ∧ j < w.heap.size
  below : Below B w0 w
  same : ∀ j, g = some j → w.heap[j]? = w0.heap[j]?

namespace At9
variable {B b : Nat} {g : Option Nat} {w0 w w1 : World} {l t c : List Int} {vl vt v1 : Value} {x : Int}

theorem size (h : At9 B b g w0 l t vl vt w) : B ≤ w.heap.size := Nat.le_of_lt (Nat.lt_of_le_of_lt h.base (blk_lt h.box))

theorem go (h : At9 B b g w0 l t vl vt w) (hb : Below w.heap.size w w1) : At9 B b g w0 l t vl vt w1 where
  box := blk_below h.box hb
  kept := ownI_below h.kept hb
  told := ownI_below h.told hb
  base := h.base
  apart := h.apart
  off := fun j hj => ⟨(h.off j hj).1, (h.off j hj).2.1, (h.off j hj).2.2.1, Nat.lt_of_lt_of_le (h.off j hj).2.2.2 hb.size⟩
  below := h.below.trans (hb.mono h.size)
  same := fun j hj => (hb.block j (h.off j hj).2.2.2).trans (h.same j hj)

theorem new (h : At9 B b g w0 l t vl vt w) (o : Obj) : At9 B b g w0 l t vl vt (w.alloc o) := h.go (below_new w o)

/-- the first cell written anew -/
theorem put0 (h : At9 B b g w0 l t vl vt w) (ho : OwnI B v1 c w) (ha : v1.ownBlock = none ∨ v1.ownBlock ≠ vt.ownBlock) (hj : ∀ j, g = some j → v1.ownBlock ≠ some j) : At9 B b g w0 c t v1 vt (w.setCell ⟨b, 0, none⟩ v1) where
  box := blk_two0 h.box
  kept := ownI_set ho _ _ (own_off' ho h.box)
  told := ownI_set h.told _ _ (own_off' h.told h.box)
  base := h.base
  apart := ha
  off := fun j e => ⟨hj j e, (h.off j e).2.1, (h.off j e).2.2.1, by simpa using (h.off j e).2.2.2⟩
  below := h.below.setCell (p := ⟨b, 0, none⟩) h.base v1
  same := fun j e => (Below.heap_setCell w ⟨b, 0, none⟩ v1 j (fun e' => (h.off j e).2.2.1 e'.symm)).trans (h.same j e)

/-- a literal of one number, put into the first cell -/
theorem one (h : At9 B b g w0 l t vl vt w) : At9 B b g w0 [x] t (.slice (some ⟨w.heap.size, 0, none⟩) 1 1) vt ((w.alloc (.cells #[.int .i64 x] 3)).setCell ⟨b, 0, none⟩ (.slice (some ⟨w.heap.size, 0, none⟩) 1 1)) := by
  refine (h.new _).put0 (ownI_lit B w [x] #[.int .i64 x] w.heap.size 1 rfl h.size rfl rfl (by unfold maxLen; omega)) (.inr fun e => ?_) (fun j e e' => ?_)
  · have := (World.ownsRow.lt h.told w.heap.size e.symm).2
    omega
  · have := (h.off j e).2.2.2
    have e2 : w.heap.size = j := by cases e'; rfl
    omega

/-- behind what grew what was told -/
theorem tell (h : At9 B b g w0 l t vl vt w) (ho : OwnI B v1 c w1) (hg : w.grownBy w1 vt.ownBlock) (hli : Lies v1 vt w) : At9 B b g w0 l c vl v1 (w1.setCell ⟨b, 1, none⟩ v1) := by
  have hb1 := blk_grown h.box hg (fun e => own_off h.told h.box e.symm)
  have hl1 : OwnI B vl l w1 := World.ownsRow.kept h.kept hg h.apart
  refine ⟨blk_two1 hb1, ownI_set hl1 _ _ (own_off' hl1 hb1), ownI_set ho _ _ (own_off' ho hb1), h.base, lies_apart h.kept h.apart hli, fun j e => ⟨(h.off j e).1, fun e' => ?_, (h.off j e).2.2.1, ?_⟩, (below_row h.below hg h.size h.told (Nat.le_refl _)).setCell (p := ⟨b, 1, none⟩) h.base v1, fun j e => ?_⟩
  · rcases hli with h1 | ⟨k, h1, h2⟩
    · exact (h.off j e).2.1 (h1.symm.trans e')
    · rw [h1] at e'
      cases e'
      have := (h.off j e).2.2.2
      omega
  · have := Nat.lt_of_lt_of_le (h.off j e).2.2.2 hg.size
    simpa using this
  · exact (Below.heap_setCell w1 ⟨b, 1, none⟩ v1 j (fun e' => (h.off j e).2.2.1 e'.symm)).trans ((hg.block j (h.off j e).2.2.2 (fun e' => (h.off j e).2.1 e'.symm)).trans (h.same j e))

/-- behind what grew what is kept -/
theorem grew (h : At9 B b g w0 l t vl vt w) (ho : OwnI B v1 c w1) (hg : w.grownBy w1 vl.ownBlock) (hli : Lies v1 vl w) : At9 B b g w0 c t v1 vt (w1.setCell ⟨b, 0, none⟩ v1) := by
  have hap : vt.ownBlock = none ∨ vt.ownBlock ≠ vl.ownBlock := by
    rcases h.apart with h1 | h1
    · cases h2 : vt.ownBlock with
      | none => exact .inl rfl
      | some k => rw [h1]; exact .inr (fun e => by cases e)
    · exact .inr fun e => h1 e.symm
  have hb1 := blk_grown h.box hg (fun e => own_off h.kept h.box e.symm)
  have hl1 : OwnI B vt t w1 := World.ownsRow.kept h.told hg hap
  have hap2 : v1.ownBlock = none ∨ v1.ownBlock ≠ vt.ownBlock := by
    rcases lies_apart h.told hap hli with h1 | h1
    · cases h2 : v1.ownBlock with
      | none => exact .inl rfl
      | some k => rw [h1]; exact .inr (fun e => by cases e)
    · exact .inr fun e => h1 e.symm
  refine ⟨blk_two0 hb1, ownI_set ho _ _ (own_off' ho hb1), ownI_set hl1 _ _ (own_off' hl1 hb1), h.base, hap2, fun j e => ⟨fun e' => ?_, (h.off j e).2.1, (h.off j e).2.2.1, ?_⟩, (below_row h.below hg h.size h.kept (Nat.le_refl _)).setCell (p := ⟨b, 0, none⟩) h.base v1, fun j e => ?_⟩
  · rcases hli with h1 | ⟨k, h1, h2⟩
    · exact (h.off j e).1 (h1.symm.trans e')
    · rw [h1] at e'
      cases e'
      have := (h.off j e).2.2.2
      omega
  · have := Nat.lt_of_lt_of_le (h.off j e).2.2.2 hg.size
    simpa using this
  · exact (Below.heap_setCell w1 ⟨b, 0, none⟩ v1 j (fun e' => (h.off j e).2.2.1 e'.symm)).trans ((hg.block j (h.off j e).2.2.2 (fun e' => (h.off j e).1 e'.symm)).trans (h.same j e))

/-- since an earlier world -/
theorem since {w2 : World} {l' t' : List Int} {ul ut : Value} (h : At9 B b g w0 l t vl vt w) (k : At9 B b g w l' t' ul ut w2) : At9 B b g w0 l' t' ul ut w2 :=
  ⟨k.box, k.kept, k.told, k.base, k.apart, k.off, h.below.trans k.below, fun j e => (k.same j e).trans (h.same j e)⟩

/-- from here on -/
theorem here (h : At9 B b g w0 l t vl vt w) : At9 B b g w l t vl vt w := ⟨h.box, h.kept, h.told, h.base, h.apart, h.off, Below.refl _ _, fun _ _ => rfl⟩
end At9

/-- what a call on a putter leaves -/
def Puts (B b : Nat) (g : Option Nat) (l t : List Int) (w : World) (e : Ending) (w' : World) : Prop := e = .returned (.tuple #[]) ∧ ∃ vl vt, At9 B b g w l t vl vt w'


set_option maxHeartbeats 3200000 in
set_option maxRecDepth 100000 in
theorem putHead_any (B b : Nat) (g : Option Nat) (l t : List Int) (d : Int) (vl vt : Value) (w : World) (hl : l.length ≤ 10000) (ht : t.length ≤ 10000000) (hp : At9 B b g w l t vl vt w) : Calls Tryz.prog 56 #[.pointer (some ⟨b, 0, none⟩), .int .i64 d] w (Puts B b g (Nor.headI l d).1 (t ++ (Nor.headI l d).2) w) := by
  obtain ⟨i0, hi, hz0, hz1, hz2⟩ := info_parts info_i
  obtain ⟨pl, cl, rfl⟩ := ri_form (ri_of_own hp.kept)
  obtain ⟨pt, ct, rfl⟩ := ri_form (ri_of_own hp.told)
  have hcm := Lib.hid (compose_any7 joinYes joinNot _ l w (by omega) (ri_of_own hp.kept))
  have hcl := Can.compose_le l
  have h1 := fun x => @Nor.head_one9 l x d
  have h2 := fun x => @Nor.head_mark9 l x d
  have h3 := @Nor.head_more9 l d
  obtain ⟨c, hc⟩ : ∃ c, Can.composeI l = c := ⟨_, rfl⟩
  rw [hc] at hcm hcl h1 h2 h3
  clear hc
  have b0 := blk_cell hp.box 0 _ rfl
  replace hp := Lib.hid hp
  by_cases hc1 : c.length = 1
  · obtain ⟨x, rfl⟩ : ∃ x, c = [x] := List.length_eq_one_iff.1 hc1
    clear hc1 h3
    cases hmb : Prp.mrkB x with
    | true =>
      rw [h2 x rfl hmb]
      have hmx := Lib.hid (fun W => markOf7 x true hmb W)
      clear h1 h2 hmb
      go_enter Tryz.func56, Tryz.ntmps56
      go_wp2_with fail
      refine hcm.out.mono ?_
      rintro e w1 ⟨v1, rfl, hv1, hb1⟩
      obtain ⟨p1, c1, rfl⟩ := ri_form hv1
      obtain ⟨g1, o1, rfl, hg1, hcell⟩ := ri_at hv1 (by simp)
      have c0 := hcell 0 (by simp)
      simp only [List.length_singleton, List.getElem_cons_zero, Nat.add_zero] at c0 hv1 ⊢
      replace hv1 := Lib.hid hv1
      have hq := Lib.hid (hp.out.go hb1)
      clear hcell b0 hb1
      go_wp2_with fail
      refine (hmx.out _).mono ?_
      rintro e w2 ⟨rfl, hb2⟩
      have hq2 := Lib.hid (hq.out.go hb2)
      have hs2 := Lib.hid (ri_below hv1.out hb2)
      have c2 := (hb2.cell (p := ⟨g1, o1, none⟩) hg1).trans c0
      have hb2' := Lib.hid hb2
      clear hb2 c0 hq
      have hq1 := hq2
      have hs1 := Lib.hid (ri_src hs2.out)
      have d1 := blk_cell hq1.out.box 1 _ rfl
      go_upto_region 6 with (at_builtin; refine wpList_append_src3 rfl _ _ 22 rfl B 3 i0 (.int .i64 0) 8 Tryz.underlying22 hi hz0 hz1 hz2 rfl _ _ _ rfl hq1.out.told _ _ rfl hs1.out (oneCellI _) (by rw [List.length_map]; unfold maxLen; first | omega | (simp; omega)) (by rw [List.length_map]; first | omega | (simp; omega)) hq1.out.size ?_; intro v5 w5 hown5 hgrow5 hlies5; have q5 := Lib.hid (hq1.out.tell (ownI_of_row (l := t ++ [x]) hown5 (by simp) (by simp)) hgrow5 hlies5); obtain ⟨T5, hT5⟩ : ∃ T5, t ++ [x] = T5 := ⟨_, rfl⟩; rw [hT5] at q5; replace hT5 := Lib.hid hT5; obtain ⟨p5, cp5, rfl⟩ := ri_form (ri_of_own q5.out.told); have k5 := blk_grown hq1.out.box hgrow5 (fun e => own_off hq1.out.told hq1.out.box e.symm); have e5 := blk_cell k5 1 _ rfl; have f5 := blk_thaw k5 1; clear hown5 hgrow5 hlies5 k5)
      obtain ⟨W, hW⟩ : ∃ W, w5.setCell ⟨b, 1, none⟩ (.slice p5 T5.length cp5) = W := ⟨_, rfl⟩
      rw [hW] at q5
      rw [hW]
      have q6 := q5.out.new (.cells #[.int .i64 d] 3)
      have e6 := blk_cell q6.box 0 _ rfl
      have f6 := blk_thaw q6.box 0
      replace q6 := Lib.hid q6
      clear hW e5 f5
      go_wp2_with fail
      go_end0
      have hT := hT5.out
      subst hT
      exact ⟨rfl, _, _, q5.out.one⟩
    | false =>
      have hh := h1 x rfl hmb
      have hmx := Lib.hid (fun W => markOf7 x false hmb W)
      clear h1 h2 hmb
      cases hj : Par.joinI x d with
      | none =>
        rw [hj] at hh
        rw [hh]
        have hjr := Lib.hid (joinNot x d hj)
        clear hh hj
        go_enter Tryz.func56, Tryz.ntmps56
        go_wp2_with fail
        refine hcm.out.mono ?_
        rintro e w1 ⟨v1, rfl, hv1, hb1⟩
        obtain ⟨p1, c1, rfl⟩ := ri_form hv1
        obtain ⟨g1, o1, rfl, hg1, hcell⟩ := ri_at hv1 (by simp)
        have c0 := hcell 0 (by simp)
        simp only [List.length_singleton, List.getElem_cons_zero, Nat.add_zero] at c0 hv1 ⊢
        replace hv1 := Lib.hid hv1
        have hq := Lib.hid (hp.out.go hb1)
        clear hcell b0 hb1
        go_wp2_with fail
        refine (hmx.out _).mono ?_
        rintro e w2 ⟨rfl, hb2⟩
        have hq2 := Lib.hid (hq.out.go hb2)
        have hs2 := Lib.hid (ri_below hv1.out hb2)
        have c2 := (hb2.cell (p := ⟨g1, o1, none⟩) hg1).trans c0
        have hb2' := Lib.hid hb2
        clear hb2 c0 hq
        go_wp2_with fail
        refine (hjr.out _).mono ?_
        rintro e w3 ⟨rfl, hb3⟩
        have hq1 := Lib.hid (hq2.out.go hb3)
        have hs1 := Lib.hid (ri_src (ri_below hs2.out hb3))
        have d1 := blk_cell hq1.out.box 1 _ rfl
        clear hb3 hq2 hs2 c2
        go_upto_region 6 with (at_builtin; refine wpList_append_src3 rfl _ _ 22 rfl B 3 i0 (.int .i64 0) 8 Tryz.underlying22 hi hz0 hz1 hz2 rfl _ _ _ rfl hq1.out.told _ _ rfl hs1.out (oneCellI _) (by rw [List.length_map]; unfold maxLen; first | omega | (simp; omega)) (by rw [List.length_map]; first | omega | (simp; omega)) hq1.out.size ?_; intro v5 w5 hown5 hgrow5 hlies5; have q5 := Lib.hid (hq1.out.tell (ownI_of_row (l := t ++ [x]) hown5 (by simp) (by simp)) hgrow5 hlies5); obtain ⟨T5, hT5⟩ : ∃ T5, t ++ [x] = T5 := ⟨_, rfl⟩; rw [hT5] at q5; replace hT5 := Lib.hid hT5; obtain ⟨p5, cp5, rfl⟩ := ri_form (ri_of_own q5.out.told); have k5 := blk_grown hq1.out.box hgrow5 (fun e => own_off hq1.out.told hq1.out.box e.symm); have e5 := blk_cell k5 1 _ rfl; have f5 := blk_thaw k5 1; clear hown5 hgrow5 hlies5 k5)
        obtain ⟨W, hW⟩ : ∃ W, w5.setCell ⟨b, 1, none⟩ (.slice p5 T5.length cp5) = W := ⟨_, rfl⟩
        rw [hW] at q5
        rw [hW]
        have q6 := q5.out.new (.cells #[.int .i64 d] 3)
        have e6 := blk_cell q6.box 0 _ rfl
        have f6 := blk_thaw q6.box 0
        replace q6 := Lib.hid q6
        clear hW e5 f5
        go_wp2_with fail
        go_end0
        have hT := hT5.out
        subst hT
        exact ⟨rfl, _, _, q5.out.one⟩
      | some y =>
        rw [hj] at hh
        rw [hh]
        have hjr := Lib.hid (joinYes x d y hj)
        clear hh hj
        go_enter Tryz.func56, Tryz.ntmps56
        go_wp2_with fail
        refine hcm.out.mono ?_
        rintro e w1 ⟨v1, rfl, hv1, hb1⟩
        obtain ⟨p1, c1, rfl⟩ := ri_form hv1
        obtain ⟨g1, o1, rfl, hg1, hcell⟩ := ri_at hv1 (by simp)
        have c0 := hcell 0 (by simp)
        simp only [List.length_singleton, List.getElem_cons_zero, Nat.add_zero] at c0 hv1 ⊢
        replace hv1 := Lib.hid hv1
        have hq := Lib.hid (hp.out.go hb1)
        clear hcell b0 hb1
        go_wp2_with fail
        refine (hmx.out _).mono ?_
        rintro e w2 ⟨rfl, hb2⟩
        have hq2 := Lib.hid (hq.out.go hb2)
        have hs2 := Lib.hid (ri_below hv1.out hb2)
        have c2 := (hb2.cell (p := ⟨g1, o1, none⟩) hg1).trans c0
        have hb2' := Lib.hid hb2
        clear hb2 c0 hq
        go_wp2_with fail
        refine (hjr.out _).mono ?_
        rintro e w3 ⟨rfl, hb3⟩
        have hq3 := Lib.hid (hq2.out.go hb3)
        have q6 := hq3.out.new (.cells #[.int .i64 y] 3)
        have e6 := blk_cell q6.box 0 _ rfl
        have f6 := blk_thaw q6.box 0
        replace q6 := Lib.hid q6
        clear hb3 hq2 hs2 c2
        go_wp2_with fail
        refine bodyPost_ret (results_none rfl _ _ _) rfl ?_
        rw [List.append_nil]
        exact ⟨rfl, _, _, hq3.out.one⟩
  · rw [h3 hc1]
    have hc1' : ((c.length : Int) == 1) = false := beq_eq_false_iff_ne.2 (by omega)
    clear h1 h2 h3 hc1
    go_enter Tryz.func56, Tryz.ntmps56
    go_wp2_with fail
    refine hcm.out.mono ?_
    rintro e w1 ⟨v1, rfl, hv1, hb1⟩
    obtain ⟨p1, c1, rfl⟩ := ri_form hv1
    have hq1 := Lib.hid (hp.out.go hb1)
    have hs1 := Lib.hid (ri_src hv1)
    have d1 := blk_cell hq1.out.box 1 _ rfl
    clear b0 hv1 hb1
    go_upto_region 6 with (at_builtin; refine wpList_append_src3 rfl _ _ 22 rfl B 3 i0 (.int .i64 0) 8 Tryz.underlying22 hi hz0 hz1 hz2 rfl _ _ _ rfl hq1.out.told _ _ rfl hs1.out (oneCellI _) (by rw [List.length_map]; unfold maxLen; first | omega | (simp; omega)) (by rw [List.length_map]; first | omega | (simp; omega)) hq1.out.size ?_; intro v5 w5 hown5 hgrow5 hlies5; have q5 := Lib.hid (hq1.out.tell (ownI_of_row (l := t ++ c) hown5 (by simp) (by simp)) hgrow5 hlies5); obtain ⟨T5, hT5⟩ : ∃ T5, t ++ c = T5 := ⟨_, rfl⟩; rw [hT5] at q5; replace hT5 := Lib.hid hT5; obtain ⟨p5, cp5, rfl⟩ := ri_form (ri_of_own q5.out.told); have k5 := blk_grown hq1.out.box hgrow5 (fun e => own_off hq1.out.told hq1.out.box e.symm); have e5 := blk_cell k5 1 _ rfl; have f5 := blk_thaw k5 1; clear hown5 hgrow5 hlies5 k5)
    obtain ⟨W, hW⟩ : ∃ W, w5.setCell ⟨b, 1, none⟩ (.slice p5 T5.length cp5) = W := ⟨_, rfl⟩
    rw [hW] at q5
    rw [hW]
    have q6 := q5.out.new (.cells #[.int .i64 d] 3)
    have e6 := blk_cell q6.box 0 _ rfl
    have f6 := blk_thaw q6.box 0
    replace q6 := Lib.hid q6
    clear hW e5 f5
    go_wp2_with fail
    go_end0
    have hT := hT5.out
    subst hT
    exact ⟨rfl, _, _, q5.out.one⟩
end Go.Proofs.YtfmnecknfmgggaaGreatDoor
