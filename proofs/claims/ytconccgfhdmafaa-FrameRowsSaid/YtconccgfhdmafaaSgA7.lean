/- Layer 12: the code's All. -/
import Derived.Test.YtconccgfhdmafaaSgA6
import Derived.Maps.AppendAt
import Derived.RangeFuncBox
namespace Go.Proofs.Ytconccgfhdmafaa
set_option linter.unusedSimpArgs false
set_option linter.unusedVariables false
open Go Go.RowKit Go.Lib Go.Shelf
attribute [local go_sem] Oper.semAt_some

theorem row_offT {B n b : Nat} {v : Value} {xs : List Value} {W : World} {cs : Array Value} {T T' : TypeId} (hT : T' ≠ T) (h : W.ownsRow B T 1 v n xs) (hb : Blk W b cs T') : v.ownBlock ≠ some b := by
  intro e
  rcases h.2 with ⟨rfl, _⟩ | ⟨g, cap, cur, rfl, _, hg, _⟩
  · cases e
  · cases e
    unfold Blk at hb
    rw [hb] at hg
    injection hg with hg
    injection hg with _ hg
    exact hT hg

/-- a cluster more in All's variable -/
theorem rows12_more {B : Nat} {w : World} {ba : Nat} {ls : List (List Int)} {m : List Int} {vs vo vb v' : Value} {c : List Int} {us : List Value} {W W4 : World} (h : Rows12 B w ba ls vs c W) (hwB : w.heap.size ≤ B) (hwa : w.heap.size ≤ ba) (h1 : Blk W ba #[vo] 36) (h2 : W.ownsRow B 22 1 vo ls.length us) (h3 : us.length = ls.length)
    (h4 : ∀ (i : Nat) (u : Value) (m : List Int), us[i]? = some u → ls[i]? = some m → OwnI B u m W) (h5 : ∀ u ∈ us, u.ownBlock = none ∨ u.ownBlock ≠ vs.ownBlock) (hvb : OwnI B vb m W) (hap : vb.ownBlock = none ∨ vb.ownBlock ≠ vs.ownBlock)
    (hown : W4.ownsRow B 22 1 v' (ls.length + 1) (us ++ [vb])) (hg : (W.alloc (.cells #[vb] 22)).grownBy W4 vo.ownBlock) :
    Rows12 B w ba (ls ++ [m]) vs c (W4.setCell ⟨ba, 0, none⟩ v') ∧ W.heap.size ≤ (W4.setCell ⟨ba, 0, none⟩ v').heap.size ∧
      ∀ (j : Nat) (o : Obj), W.heap[j]? = some o → (∀ cs : Array Value, o ≠ .cells cs 22) → (∀ cs : Array Value, o ≠ .cells cs 36) → (W4.setCell ⟨ba, 0, none⟩ v').heap[j]? = some o := by
  have hkeep : ∀ (j : Nat) (o : Obj), W.heap[j]? = some o → (∀ cs : Array Value, o ≠ .cells cs 22) → (∀ cs : Array Value, o ≠ .cells cs 36) → (W4.setCell ⟨ba, 0, none⟩ v').heap[j]? = some o := by
    intro j o hj hn1 hn2
    have hjb : j ≠ ba := by
      rintro rfl
      unfold Blk at h1
      rw [hj] at h1
      injection h1 with h1
      exact hn2 _ h1
    have hjlt := (Array.getElem?_eq_some_iff.1 hj).1
    rw [heap_setCell_other W4 ⟨ba, 0, none⟩ j v' hjb, hg.block j (by simp; omega) ?_, Below.heap_alloc W _ j hjlt]
    · exact hj
    · intro e
      rcases h2.2 with ⟨rfl, _⟩ | ⟨g, cap, cur, rfl, _, hgg, _⟩
      · cases e
      · cases e
        rw [hj] at hgg
        injection hgg with hgg
        exact hn1 _ hgg
  have hint : ∀ (u : Value) (l : List Int), OwnI B u l W → OwnI B u l (W4.setCell ⟨ba, 0, none⟩ v') := fun u l hu => own_eq hu fun j cs hj => (hkeep j _ hj (fun cs' e => by injection e with _ e; exact absurd e.symm slices_ne_int) (fun cs' e => by injection e with _ e; exact absurd e.symm rows_ne_int)).trans hj.symm
  have hb4 : Blk W4 ba #[vo] 36 := blk_grown (blk_alloc h1 _) hg (fun e => row_offT rows_ne_slices h2 h1 e.symm)
  have hbel : Below w.heap.size w (W4.setCell ⟨ba, 0, none⟩ v') := by
    refine Below.setCell ?_ hwa v'
    have ha : Below w.heap.size w (W.alloc (.cells #[vb] 22)) := h.below.alloc h.below.size _
    refine ha.grown hg ha.size fun k e => ?_
    exact Nat.le_trans hwB (World.ownsRow.lt h2 k e).1
  refine ⟨⟨⟨v', us ++ [vb], blk_set hb4, row_set (by simpa using hown) _ _ (.inr (row_offT rows_ne_slices hown hb4)), by simp [h3], fun i u l hu hl => ?_, fun u hu => ?_⟩, hint _ _ h.own, hbel⟩, ?_, hkeep⟩
  · by_cases hi : i < us.length
    · rw [List.getElem?_append_left hi] at hu
      rw [List.getElem?_append_left (by omega)] at hl
      exact hint _ _ (h4 i u l hu hl)
    · have hi2 : i = us.length := by
        have := (List.getElem?_eq_some_iff.1 hu).1
        simp at this
        omega
      subst hi2
      rw [List.getElem?_append_right (Nat.le_refl _), Nat.sub_self] at hu
      rw [List.getElem?_append_right (by omega), h3, Nat.sub_self] at hl
      simp at hu hl
      subst hu
      subst hl
      exact hint _ _ hvb
  · rcases List.mem_append.1 hu with hu | hu
    · exact h5 u hu
    · rw [List.mem_singleton] at hu
      subst hu
      exact hap
  · have := hg.size
    have e : (W4.setCell ⟨ba, 0, none⟩ v').heap.size = W4.heap.size := by simp
    rw [e]
    simp at this
    omega

theorem rr_of_rows {B : Nat} {w : World} {ba : Nat} {ls : List (List Int)} {vs vo : Value} {c : List Int} {W : World} (h : Rows12 B w ba ls vs c W) (hb : Blk W ba #[vo] 36) : OwnR B vo ls W := by
  obtain ⟨vo', us, h1, h2, h3, h4, _⟩ := h.all
  unfold Blk at h1 hb
  rw [hb] at h1
  cases h1
  exact ⟨us, h2, h3, h4⟩

theorem loop_letter {P : Loop → Prop} {X : Loop} (h : ∀ r, r = X → P r) : P X := h X rfl

theorem k12_new (w : World) (r : Loop) : K12 (w.heap.size + 1) w.heap.size r ((w.alloc (.deferred (some []))).alloc (.loop r)) := by
  have h1 := World.alloc_heap_new (w.alloc (.deferred (some []))) (.loop r)
  rw [World.size_alloc] at h1
  exact ⟨h1, (Below.heap_alloc _ _ _ (by simp)).trans (World.alloc_heap_new w _)⟩

theorem rows12_dfr {B : Nat} {w : World} {ba l : Nat} {ls : List (List Int)} {vs : Value} {c : List Int} {W : World} {ds : Option (List Deferred)} (h : Rows12 B w ba ls vs c W) (hl : W.heap[l]? = some (.deferred ds)) (hw : w.heap.size ≤ l) (o : Obj) : Rows12 B w ba ls vs c (W.putObj l o) := by
  refine rows12_of h (h.below.trans (belowK_b (w := w) (Nat.le_refl _) W l _ o hw hl rfl rfl)) fun j cs T hj _ => World.putObj_heap_other ?_
  rintro rfl
  rw [hl] at hj
  cases hj

theorem clusters_any (p : Option Addr) (n c : Nat) (w : World) : Calls Try.prog 31 #[.slice p n c] w fun e w' => e = .returned (.func (.func 43) #[] #[.pointer (some ⟨w.heap.size, 0, none⟩)]) ∧ w' = w.alloc (.cells #[.slice p n c] 22) := by
  go_enter Try.func31, Try.ntmps31
  go_wp2_with fail
  go_ret
  exact ⟨rfl, rfl⟩

set_option maxHeartbeats 6400000 in
set_option maxRecDepth 100000 in
theorem all12_any (v : Value) (L : List Int) (w : World) (hl : L.length ≤ 100000) (hv : RI w v L) : Calls Try.prog 19 #[v] w (ToldR (Sgm.allI L) w) := by
  obtain ⟨i0, hi, hz0, hz1, hz2⟩ := info_parts info_r
  obtain ⟨p, cap, rfl⟩ := ri_form hv
  obtain ⟨w1, hw1⟩ : ∃ w1, w.alloc (.cells #[.slice none 0 0] 36) = w1 := ⟨_, rfl⟩
  obtain ⟨w2, hw2⟩ : ∃ w2, w1.alloc (.cells #[.slice p L.length cap] 22) = w2 := ⟨_, rfl⟩
  have hs1 : w1.heap.size = w.heap.size + 1 := by rw [← hw1]; simp
  have hs2 : w2.heap.size = w.heap.size + 2 := by rw [← hw2]; simp [hs1]
  have hba1 : Blk w1 w.heap.size #[.slice none 0 0] 36 := hw1 ▸ blk_new w _ _
  have hba2 : Blk w2 w.heap.size #[.slice none 0 0] 36 := hw2 ▸ blk_alloc hba1 _
  have hbl2 : Blk w2 (w.heap.size + 1) #[.slice p L.length cap] 22 := by rw [← hw2, ← hs1]; exact blk_new w1 _ _
  have hb2 : Below w.heap.size w w2 := by rw [← hw2, ← hw1]; exact (below_new w _).alloc (by simp) _
  have hrows2 : Rows12 w2.heap.size w w.heap.size [] (.slice none 0 0) [] w2 := ⟨⟨_, [], hba2, World.ownsRow_nil _ _ _ _, rfl, fun i u m hu _ => by simp at hu, fun u hu => by simp at hu⟩, ownI_nil _ _, hb2⟩
  replace hw1 := Lib.hid hw1
  replace hw2 := Lib.hid hw2
  refine (callsIn_wide (n := 5)).1 ?_
  refine callsIn_of_wp_marks Try.func19 rfl trivial ?_ rfl
  simp only [Try.ntmps19, List.size_toArray, List.length_cons, List.length_nil, Nat.reduceAdd, Nat.reduceSub, Array.replicate_succ, Array.replicate_zero, List.push_toArray, List.append_toArray, List.nil_append, List.cons_append]
  gi_upto_region 2 with fail
  rw [hw1.out]
  gi_wp2_with (refine ⟨trivial, ?_⟩; gi_at_call 31; refine (callsIn_wide.2 (clusters_any _ _ _ _)).mono ?_; rintro e w' ⟨rfl, rfl⟩)
  rw [hw2.out]
  refine wpIn_rangeFunc_ours (gf := 43) (lb := #[.pointer (some ⟨w.heap.size + 1, 0, none⟩)]) rfl (by omega) rfl trivial (enters_of Try.func43 (by kernel_rfl) rfl) ?_
  intro fn hfn
  have hbD : Below w.heap.size w (w2.alloc (.deferred (some []))) := hb2.alloc hb2.size _
  have hrows3 := fun o => rows12_of (rows12_of hrows2 hbD fun j cs T hj _ => Below.heap_alloc w2 _ j (Array.getElem?_eq_some_iff.1 hj).1) (hbD.alloc hbD.size o) fun j cs T hj _ => Below.heap_alloc _ _ j (Array.getElem?_eq_some_iff.1 hj).1
  refine (clusters1_in (5 - 1) (by omega) w2.heap.size w _ w.heap.size (w.heap.size + 1) (w2.heap.size + 1) w2.heap.size _ p cap L hl (by omega) (by simp; omega) (blk_alloc (blk_alloc hbl2 _) _) hv (k12_new w2 _) (hrows3 _) ?yld).mono ?_
  case yld =>
    refine loop_letter (P := fun r => Yld12 _ _ _ _ _ _ r _) (fun r hr => ?_)
    have hst := congrArg Loop.state hr
    have hpe := congrArg Loop.pending hr
    have hfn' := congrArg Loop.fn hr
    have hpa := congrArg Loop.params hr
    have htm := congrArg Loop.tmps hr
    have has := congrArg Loop.assign hr
    have hbo := congrArg Loop.body hr
    dsimp only at hst hpe hfn' hpa htm has hbo
    clear hr
    replace hbo := Lib.hid hbo
    replace has := Lib.hid has
    replace htm := Lib.hid htm
    replace hpa := Lib.hid hpa
    replace hst := Lib.hid hst
    replace hpe := Lib.hid hpe
    replace hfn' := Lib.hid hfn'
    intro ls m vb vs c W hrw hvb hap hkk hlen
    obtain ⟨pb, qb, rfl⟩ := ri_form (ri_of_own hvb)
    refine yieldAt_ours trivial hkk.1 hst.out hpe.out (by rw [hpa.out]; rfl) { tmps := #[.slice p L.length cap, undef, .slice none 0 0, .pointer (some ⟨w.heap.size, 0, none⟩), .slice pb m.length qb, .slice p L.length cap, .func (.func 43) #[] #[.pointer (some ⟨w.heap.size + 1, 0, none⟩)], .slice pb m.length qb, undef, undef, undef, undef, undef], defers := [] } ?assign ?body
    case assign =>
      intro K hK
      rw [has.out, hpa.out, htm.out]
      gi_wp2
      exact hK
    case body =>
      have hlB := (Array.getElem?_eq_some_iff.1 hkk.1).1
      obtain ⟨o, ho⟩ : ∃ o, Obj.loop { r with state := .busy } = o := ⟨_, rfl⟩
      have hrb := rows12_loop hrw hkk.1 (by omega) o
      have hvbb := ownsRow_putObj hvb (l := w2.heap.size + 1) o hkk.1 rfl
      have hlb := World.putObj_heap_same (o := o) hlB
      have hDb := (World.putObj_heap_other (o := o) (w := W) (r := w2.heap.size + 1) (k := w2.heap.size) (by omega)).trans hkk.2
      have hSb : ∀ (j : Nat) (cs : Array Value), Blk W j cs 71 → Blk (W.putObj (w2.heap.size + 1) o) j cs 71 := by
        intro j cs hj
        have hne : j ≠ w2.heap.size + 1 := by
          rintro rfl
          unfold Blk at hj
          rw [hkk.1] at hj
          cases hj
        exact (World.putObj_heap_other hne).trans hj
      have hWs : W.heap.size = (W.putObj (w2.heap.size + 1) o).heap.size := by simp
      rw [ho, hbo.out]
      obtain ⟨Wb, hWb⟩ : ∃ Wb, W.putObj (w2.heap.size + 1) o = Wb := ⟨_, rfl⟩
      rw [hWb] at hrb hvbb hlb hDb hSb hWs ⊢
      obtain ⟨vo, us, h1, h2, h3, h4, h5⟩ := hrb.all
      have hB : w2.heap.size + 1 < Wb.heap.size := (Array.getElem?_eq_some_iff.1 hlb).1
      have c0 := blk_cell h1 0 _ rfl
      have f0 := blk_thaw h1 0
      have hr2 := Lib.hid (World.ownsRow.alloc h2 (.cells #[.slice pb m.length qb] 22))
      have hsz := Lib.hid (show w2.heap.size ≤ (Wb.alloc (.cells #[.slice pb m.length qb] 22)).heap.size by simp; omega)
      have hb1 := Lib.hid (blk_alloc h1 (.cells #[.slice pb m.length qb] 22))
      replace h1 := Lib.hid h1
      replace h2 := Lib.hid h2
      replace h3 := Lib.hid h3
      replace h4 := Lib.hid h4
      replace h5 := Lib.hid h5
      replace hrw := Lib.hid hrw
      replace hrb := Lib.hid hrb
      replace hkk := Lib.hid hkk
      replace hvb := Lib.hid hvb
      replace hvbb := Lib.hid hvbb
      replace hlb := Lib.hid hlb
      replace hDb := Lib.hid hDb
      replace hSb := Lib.hid hSb
      replace hap := Lib.hid hap
      replace hWs := Lib.hid hWs
      replace ho := Lib.hid ho
      replace hWb := Lib.hid hWb
      replace hrows2 := Lib.hid hrows2
      replace hrows3 := Lib.hid hrows3
      replace hbD := Lib.hid hbD
      replace hb2 := Lib.hid hb2
      replace hs1 := Lib.hid hs1
      replace hs2 := Lib.hid hs2
      replace hba1 := Lib.hid hba1
      replace hba2 := Lib.hid hba2
      replace hbl2 := Lib.hid hbl2
      replace hB := Lib.hid hB
      replace hlB := Lib.hid hlB
      gi_wp2_with (gi_at_builtin; refine wpListIn_append_own _ rfl _ _ 36 rfl w2.heap.size 22 i0 (.slice none 0 0) 1 24 Try.underlying36 hi hz0 hz1 hz2 rfl (by decide) _ _ _ rfl hr2.out ⟨Wb.heap.size, 0, none⟩ 1 1 [.slice pb m.length qb] rfl rfl (cell_one12 Wb (.slice pb m.length qb) 22) (by simp [Value.oneCell']) (by unfold maxLen; omega) (by omega) hsz.out ?_; intro v5 w5 hown5 hgrow5 _; have hmore := rows12_more hrb.out (by have := hs2.out; omega) (Nat.le_refl _) h1.out h2.out h3.out h4.out h5.out hvbb.out hap.out hown5 hgrow5; have hb5 := blk_grown hb1.out hgrow5 (fun e => row_offT rows_ne_slices h2.out h1.out e.symm); obtain ⟨g5, q5, rfl⟩ := ownsRow_succ hown5; have c5 := blk_cell hb5 0 _ rfl; have f5 := blk_thaw hb5 0; replace hmore := Lib.hid hmore; replace hb5 := Lib.hid hb5; replace hown5 := Lib.hid hown5; replace hgrow5 := Lib.hid hgrow5)
      obtain ⟨m1, m2, m3⟩ := hmore.out
      have hno : ∀ (T : TypeId) (cs : Array Value), o ≠ .cells cs T := fun T cs e => by rw [← ho.out] at e; cases e
      have hl5 := m3 _ o hlb.out (hno _) (hno _)
      have hD5 := m3 _ _ hDb.out (fun cs e => by cases e) (fun cs e => by cases e)
      have hl5' := hl5
      rw [← ho.out] at hl5'
      refine ⟨hl5, trivial, rows12_loop m1 hl5' (by have := hs2.out; omega) _, ⟨World.putObj_heap_same (Array.getElem?_eq_some_iff.1 hl5).1, (World.putObj_heap_other (by omega)).trans hD5⟩, ?_, fun j cs hj => ?_⟩
      · rw [World.putObj_size]
        have := hWs.out
        omega
      · have hj2 := m3 j _ (hSb.out j cs hj) (fun cs' e => by injection e with _ e; exact absurd e state_ne_slices) (fun cs' e => by injection e with _ e; exact absurd e state_ne_rows)
        refine (World.putObj_heap_other ?_).trans hj2
        rintro rfl
        have h1' := hkk.out.1
        unfold Blk at hj
        rw [hj] at h1'
        cases h1'
  · rintro e W ⟨⟨v, rfl⟩, vs, c, hrw, hkk⟩
    refine ⟨⟨v, rfl⟩, _, hkk.1, by simp, rfl, fun o => ?_⟩
    have hrf := rows12_loop hrw hkk.1 (by omega) o
    have hDf := (World.putObj_heap_other (o := o) (w := W) (r := w2.heap.size + 1) (k := w2.heap.size) (by omega)).trans hkk.2
    obtain ⟨Wf, hWf⟩ : ∃ Wf, W.putObj (w2.heap.size + 1) o = Wf := ⟨_, rfl⟩
    rw [hWf] at hrf hDf ⊢
    obtain ⟨vo, us, h1, _⟩ := hrf.all
    have c0 := blk_cell h1 0 _ rfl
    have hfin := rows12_dfr hrf hDf (by omega) (.deferred none)
    have h1f : Blk (Wf.putObj w2.heap.size (.deferred none)) w.heap.size #[vo] 36 := by
      refine (World.putObj_heap_other ?_).trans h1
      omega
    replace hrf := Lib.hid hrf
    replace hfin := Lib.hid hfin
    replace h1 := Lib.hid h1
    replace h1f := Lib.hid h1f
    replace hDf := Lib.hid hDf
    replace hrw := Lib.hid hrw
    replace hkk := Lib.hid hkk
    replace hWf := Lib.hid hWf
    replace hrows2 := Lib.hid hrows2
    replace hrows3 := Lib.hid hrows3
    replace hbD := Lib.hid hbD
    replace hb2 := Lib.hid hb2
    replace hs1 := Lib.hid hs1
    replace hs2 := Lib.hid hs2
    replace hba1 := Lib.hid hba1
    replace hba2 := Lib.hid hba2
    replace hbl2 := Lib.hid hbl2
    gi_wp2
    refine ⟨by simp, .inl ⟨_, _, rfl, run_takeDeferred hDf.out, ?_⟩⟩
    exact ⟨_, results_tmp rfl _ _ _, vo, rfl, rr_of_ownR (rr_of_rows hfin.out h1f.out), hfin.out.below⟩

end Go.Proofs.Ytconccgfhdmafaa
