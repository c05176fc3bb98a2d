/- Layer 12: what All's loop over the iterator holds. -/
import Derived.Test.YtconccgfhdmafaaSgA4
import Derived.Test.YtconccgfhdmafaaSgO
import Derived.Test.YtconccgfhdmafaaRgF
namespace Go.Proofs.Ytconccgfhdmafaa
set_option linter.unusedSimpArgs false
set_option linter.unusedVariables false
open Go Go.RowKit Go.Lib

/-- the clusters told so far, in All's variable (ba); the one that is open (vs, c), which lies apart -/
structure Rows12 (B : Nat) (w : World) (ba : Nat) (ls : List (List Int)) (vs : Value) (c : List Int) (W : World) : Prop where
  all : ∃ vo us, Blk W ba #[vo] 36 ∧ W.ownsRow B 22 1 vo ls.length us ∧ us.length = ls.length ∧ (∀ (i : Nat) (u : Value) (m : List Int), us[i]? = some u → ls[i]? = some m → OwnI B u m W) ∧ (∀ u ∈ us, u.ownBlock = none ∨ u.ownBlock ≠ vs.ownBlock)
  own : OwnI B vs c W
  below : Below w.heap.size w W

theorem own_eq {B n : Nat} {T : TypeId} {v : Value} {xs : List Value} {W W' : World} (h : W.ownsRow B T 1 v n xs) (hs : ∀ (j : Nat) (cs : Array Value), W.heap[j]? = some (Obj.cells cs T) → W'.heap[j]? = W.heap[j]?) : W'.ownsRow B T 1 v n xs := by
  refine ⟨h.1, ?_⟩
  rcases h.2 with h2 | ⟨g, cap, cur, rfl, hg, hh, r⟩
  · exact .inl h2
  · exact .inr ⟨g, cap, cur, rfl, hg, (hs g _ hh).trans hh, r⟩

theorem slices_ne_int : 22 ≠ 3 := by decide
theorem rows_ne_int : 36 ≠ 3 := by decide
theorem rows_ne_slices : 36 ≠ 22 := by decide
theorem state_ne_slices : 71 ≠ 22 := by decide
theorem state_ne_rows : 71 ≠ 36 := by decide

/-- a step that leaves these blocks as they were -/
theorem rows12_of {B : Nat} {w : World} {ba : Nat} {ls : List (List Int)} {vs : Value} {c : List Int} {W W' : World} (h : Rows12 B w ba ls vs c W) (hb : Below w.heap.size w W')
    (hs : ∀ (j : Nat) (cs : Array Value) (T : TypeId), W.heap[j]? = some (Obj.cells cs T) → T = 3 ∨ T = 22 ∨ j = ba → W'.heap[j]? = W.heap[j]?) : Rows12 B w ba ls vs c W' := by
  obtain ⟨⟨vo, us, h1, h2, h3, h4, h5⟩, ho, _⟩ := h
  exact ⟨⟨vo, us, (hs _ _ _ h1 (.inr (.inr rfl))).trans h1, own_eq h2 fun j cs hj => hs j cs _ hj (.inr (.inl rfl)), h3, fun i u m hu hm => own_eq (h4 i u m hu hm) fun j cs hj => hs j cs _ hj (.inl rfl), h5⟩, own_eq ho fun j cs hj => hs j cs _ hj (.inl rfl), hb⟩

theorem rows12_nil {B : Nat} {w : World} {ba : Nat} {ls : List (List Int)} {vs : Value} {c : List Int} {W : World} (h : Rows12 B w ba ls vs c W) : Rows12 B w ba ls (.slice none 0 0) [] W := by
  obtain ⟨⟨vo, us, h1, h2, h3, h4, h5⟩, ho, hb⟩ := h
  exact ⟨⟨vo, us, h1, h2, h3, h4, fun u _ => by cases e : u.ownBlock with | none => exact .inl rfl | some k => exact .inr (fun e' => by cases e')⟩, ownI_nil _ _, hb⟩

theorem rows12_put5 {B : Nat} {w : World} {ba bs : Nat} {ls : List (List Int)} {vs : Value} {c : List Int} {W : World} {cs : Array Value} (h : Rows12 B w ba ls vs c W) (hbs : Blk W bs cs 71) (hw : w.heap.size ≤ bs) (x0 x1 x2 x3 x4 : Value) : Rows12 B w ba ls vs c (put5 W bs x0 x1 x2 x3 x4) := by
  have hba := h.all
  obtain ⟨vo, us, h1, _⟩ := hba
  refine rows12_of h (below_put5 h.below hw _ _ _ _ _) fun j cs' T hj hT => ?_
  have hne : bs ≠ j := by
    rintro rfl
    unfold Blk at hbs
    rw [hbs] at hj
    injection hj with hj
    injection hj with _ hj
    rcases hT with rfl | rfl | rfl
    · exact absurd hj state_ne
    · exact absurd hj state_ne_slices
    · unfold Blk at h1
      rw [hbs] at h1
      injection h1 with h1
      injection h1 with _ h1
      exact absurd h1 state_ne_rows
  exact (blk_else5 hj x0 x1 x2 x3 x4 hne).trans hj.symm

theorem rows12_loop {B : Nat} {w : World} {ba l : Nat} {ls : List (List Int)} {vs : Value} {c : List Int} {W : World} {r : Loop} (h : Rows12 B w ba ls vs c W) (hl : W.heap[l]? = some (.loop r)) (hw : w.heap.size ≤ l) (o : Obj) : Rows12 B w ba ls vs c (W.putObj l o) := by
  refine rows12_of h (h.below.trans (belowK_b (w := w) (Nat.le_refl _) W l _ o hw hl rfl rfl)) fun j cs T hj _ => World.putObj_heap_other ?_
  rintro rfl
  rw [hl] at hj
  cases hj

/-- the loop's record, and the block of what is deferred -/
def K12 (l D : Nat) (r : Loop) (W : World) : Prop := W.heap[l]? = some (.loop r) ∧ W.heap[D]? = some (.deferred (some []))

theorem onlyO_other {B j : Nat} {v : Value} {m : List Int} {W W' : World} {o : Obj} (h : OnlyO v W W') (ho : OwnI B v m W) (hj : W.heap[j]? = some o) (hn : ∀ cs : Array Value, o ≠ Obj.cells cs 3) : W'.heap[j]? = some o := by
  rw [h.2 j (Array.getElem?_eq_some_iff.1 hj).1 ?_]
  · exact hj
  · intro e
    rcases ho.2 with ⟨rfl, _⟩ | ⟨g, cap, cur, rfl, _, hg, _⟩
    · cases e
    · cases e
      rw [hj] at hg
      injection hg with hg
      exact hn _ hg

theorem k12_only {B l D : Nat} {r : Loop} {v : Value} {m : List Int} {W W' : World} (h : K12 l D r W) (ho : OnlyO v W W') (hv : OwnI B v m W) : K12 l D r W' :=
  ⟨onlyO_other ho hv h.1 (fun _ e => by cases e), onlyO_other ho hv h.2 (fun _ e => by cases e)⟩
theorem k12_put5 {l D bs : Nat} {r : Loop} {W : World} {cs : Array Value} {T : TypeId} (h : K12 l D r W) (hb : Blk W bs cs T) (x0 x1 x2 x3 x4 : Value) : K12 l D r (put5 W bs x0 x1 x2 x3 x4) := by
  unfold Blk at hb
  have h1 : bs ≠ l := by rintro rfl; rw [h.1] at hb; cases hb
  have h2 : bs ≠ D := by rintro rfl; rw [h.2] at hb; cases hb
  have e := fun j (hj : bs ≠ j) => (heap_setCell_other (((( W.setCell ⟨bs, 0, none⟩ x0).setCell ⟨bs, 1, none⟩ x1).setCell ⟨bs, 2, none⟩ x2).setCell ⟨bs, 3, none⟩ x3) ⟨bs, 4, none⟩ j x4 (Ne.symm hj)).trans
    ((heap_setCell_other (((W.setCell ⟨bs, 0, none⟩ x0).setCell ⟨bs, 1, none⟩ x1).setCell ⟨bs, 2, none⟩ x2) ⟨bs, 3, none⟩ j x3 (Ne.symm hj)).trans
    ((heap_setCell_other ((W.setCell ⟨bs, 0, none⟩ x0).setCell ⟨bs, 1, none⟩ x1) ⟨bs, 2, none⟩ j x2 (Ne.symm hj)).trans
    ((heap_setCell_other (W.setCell ⟨bs, 0, none⟩ x0) ⟨bs, 1, none⟩ j x1 (Ne.symm hj)).trans (heap_setCell_other W ⟨bs, 0, none⟩ j x0 (Ne.symm hj)))))
  exact ⟨(e l h1).trans h.1, (e D h2).trans h.2⟩

/-- behind one value more -/
theorem rows12_behind {B : Nat} {w : World} {ba : Nat} {ls : List (List Int)} {vs va vb : Value} {c : List Int} {q : (List Int × Clu.CS) × List Int} {W W' : World} (h : Rows12 B w ba ls vs c W) (hB : w.heap.size ≤ B) (hBW : B ≤ W.heap.size) (hb : Bhd B vs c q va vb W W') :
    Rows12 B w ba ls va q.1.1 W' ∧ OwnI B vb q.2 W' ∧ (vb.ownBlock = none ∨ vb.ownBlock ≠ va.ownBlock) := by
  obtain ⟨⟨vo, us, h1, h2, h3, h4, h5⟩, ho, hbel⟩ := h
  have hlies : Lies va vs W ∨ (∀ k, va.ownBlock = some k → W.heap.size ≤ k) := by
    rcases hb.told with ⟨_, _, _, h⟩ | ⟨_, _, h⟩
    · exact .inr h
    · exact .inl h
  refine ⟨⟨⟨vo, us, onlyO_blk hb.only rows_ne_int ho h1, own_eq h2 fun j cs hj => (onlyO_other hb.only ho hj (fun cs' e => by injection e with _ e; exact absurd e slices_ne_int)).trans hj.symm, h3, fun i u m hu hm => ?_, fun u hu => ?_⟩, hb.own, onlyO_below hb.only (ownI_mono ho hB) (Nat.le_trans hB hBW) hbel⟩, bhd_toldO hb, ?_⟩
  · exact onlyO_own (B' := B) hb.only (h4 i u m hu hm) (h5 u (List.mem_of_getElem? hu))
  · obtain ⟨i, hi, hu'⟩ := List.mem_iff_getElem.1 hu
    have hu2 : us[i]? = some u := by rw [List.getElem?_eq_getElem hi, hu']
    have hm : ls[i]? = some (ls[i]'(by omega)) := List.getElem?_eq_getElem (by omega)
    have hou := h4 i u _ hu2 hm
    rcases hlies with hl | hl
    · exact lies_apart hou (h5 u hu) hl
    · cases e : u.ownBlock with
      | none => exact .inl rfl
      | some k =>
        refine .inr fun e' => ?_
        have := hl k e'.symm
        have := (World.ownsRow.lt hou k e).2
        omega
  · rcases hb.told with ⟨rfl, _, _, hn⟩ | ⟨rfl, _, _⟩
    · cases e : vb.ownBlock with
      | none => exact .inl rfl
      | some k =>
        refine .inr fun e' => ?_
        have := hn k e'.symm
        have := (World.ownsRow.lt ho k e).2
        omega
    · exact .inl rfl

end Go.Proofs.Ytconccgfhdmafaa
