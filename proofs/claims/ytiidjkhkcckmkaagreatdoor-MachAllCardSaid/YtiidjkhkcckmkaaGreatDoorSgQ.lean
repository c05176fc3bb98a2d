/- Texts that stand together. -/
import Derived.Test.YtiidjkhkcckmkaaGreatDoorSgP
import Derived.Test.YtiidjkhkcckmkaaGreatDoorRgF
import Derived.RangeFuncNested
import Derived.RangeFuncBound
import Derived.RangeFuncCalls
import Derived.RangeFuncLeaves
import Derived.Shelf.Abstract
import Derived.Shelf.RegionOpen
import Derived.WalkKit
import Derived.OwnWalkIn
import Derived.TacticsInMore
import Derived.LoopNIn
import Derived.LoopIn
import Derived.Sort.CutIn
import Derived.Maps.AppendAt
import Derived.RangeFuncBox
/- Layer 12: what All's loop over the iterator holds. -/
namespace Go.Proofs.YtiidjkhkcckmkaaGreatDoor
set_option linter.unusedSimpArgs false
set_option linter.unusedVariables false
open Go Go.RowKit Go.Lib
/-- the clusters told so far, in All's variable (ba); the one that is open (vs, c), which lies apart -/
structure Rows12 (B : Nat) (w : World) (ba : Nat) (ls : List (List Int)) (vs : Value) (c : List Int) (W : World) : Prop where
  all : ∃ vo us, Blk W ba #[vo] 92 ∧ W.ownsRow B 24 1 vo ls.length us ∧ us.length = ls.length ∧ (∀ (i : Nat) (u : Value) (m : List Int), us[i]? = some u → ls[i]? = some m → OwnI B u m W) ∧ (∀ u ∈ us, u.ownBlock = none ∨ u.ownBlock ≠ vs.ownBlock)
  own : OwnI B vs c W
  below : Below w.heap.size w W
theorem own_eq {B n : Nat} {T : TypeId} {v : Value} {xs : List Value} {W W' : World} (h : W.ownsRow B T 1 v n xs) (hs : ∀ (j : Nat) (cs : Array Value), W.heap[j]? = some (Obj.cells cs T) → W'.heap[j]? = W.heap[j]?) : W'.ownsRow B T 1 v n xs := by
  refine ⟨h.1, ?_⟩
  rcases h.2 with h2 | ⟨g, cap, cur, rfl, hg, hh, r⟩
  · exact .inl h2
  · exact .inr ⟨g, cap, cur, rfl, hg, (hs g _ hh).trans hh, r⟩
theorem slices_ne_int : 24 ≠ 3 := by decide
theorem rows_ne_int : 92 ≠ 3 := by decide
theorem rows_ne_slices : 92 ≠ 24 := by decide
theorem state_ne_slices : 39 ≠ 24 := by decide
theorem state_ne_rows : 39 ≠ 92 := by decide
/-- a step that leaves these blocks as they were -/
theorem rows12_of {B : Nat} {w : World} {ba : Nat} {ls : List (List Int)} {vs : Value} {c : List Int} {W W' : World} (h : Rows12 B w ba ls vs c W) (hb : Below w.heap.size w W')
    (hs : ∀ (j : Nat) (cs : Array Value) (T : TypeId), W.heap[j]? = some (Obj.cells cs T) → T = 3 ∨ T = 24 ∨ j = ba → W'.heap[j]? = W.heap[j]?) : Rows12 B w ba ls vs c W' := by
  obtain ⟨⟨vo, us, h1, h2, h3, h4, h5⟩, ho, _⟩ := h
  exact ⟨⟨vo, us, (hs _ _ _ h1 (.inr (.inr rfl))).trans h1, own_eq h2 fun j cs hj => hs j cs _ hj (.inr (.inl rfl)), h3, fun i u m hu hm => own_eq (h4 i u m hu hm) fun j cs hj => hs j cs _ hj (.inl rfl), h5⟩, own_eq ho fun j cs hj => hs j cs _ hj (.inl rfl), hb⟩
theorem rows12_nil {B : Nat} {w : World} {ba : Nat} {ls : List (List Int)} {vs : Value} {c : List Int} {W : World} (h : Rows12 B w ba ls vs c W) : Rows12 B w ba ls (.slice none 0 0) [] W := by
  obtain ⟨⟨vo, us, h1, h2, h3, h4, h5⟩, ho, hb⟩ := h
  exact ⟨⟨vo, us, h1, h2, h3, h4, fun u _ => by cases e : u.ownBlock with | none => exact .inl rfl | some k => exact .inr (fun e' => by cases e')⟩, ownI_nil _ _, hb⟩
theorem rows12_put5 {B : Nat} {w : World} {ba bs : Nat} {ls : List (List Int)} {vs : Value} {c : List Int} {W : World} {cs : Array Value} (h : Rows12 B w ba ls vs c W) (hbs : Blk W bs cs 39) (hw : w.heap.size ≤ bs) (x0 x1 x2 x3 x4 : Value) : Rows12 B w ba ls vs c (put5 W bs x0 x1 x2 x3 x4) := by
  have hba := h.all
  obtain ⟨vo, us, h1, _⟩ := hba
  refine rows12_of h (below_put5 h.below hw _ _ _ _ _) fun j cs' T hj hT => ?_
  have hne : bs ≠ j := by
    rintro rfl
    unfold Blk at hbs
    rw [hbs] at hj
    injection hj with hj
    injection hj with _ hj
    rcases hT with rfl | rfl | rfl
    · exact absurd hj state_ne
    · exact absurd hj state_ne_slices
    · unfold Blk at h1
      rw [hbs] at h1
      injection h1 with h1
      injection h1 with _ h1
      exact absurd h1 state_ne_rows
  exact (blk_else5 hj x0 x1 x2 x3 x4 hne).trans hj.symm
theorem rows12_loop {B : Nat} {w : World} {ba l : Nat} {ls : List (List Int)} {vs : Value} {c : List Int} {W : World} {r : Loop} (h : Rows12 B w ba ls vs c W) (hl : W.heap[l]? = some (.loop r)) (hw : w.heap.size ≤ l) (o : Obj) : Rows12 B w ba ls vs c (W.putObj l o) := by
  refine rows12_of h (h.below.trans (belowK_b (w := w) (Nat.le_refl _) W l _ o hw hl rfl rfl)) fun j cs T hj _ => World.putObj_heap_other ?_
  rintro rfl
  rw [hl] at hj
  cases hj
/-- the loop's record, and the block of what is deferred -/
def K12 (l D : Nat) (r : Loop) (W : World) : Prop := W.heap[l]? = some (.loop r) ∧ W.heap[D]? = some (.deferred (some []))
theorem onlyO_other {B j : Nat} {v : Value} {m : List Int} {W W' : World} {o : Obj} (h : OnlyO v W W') (ho : OwnI B v m W) (hj : W.heap[j]? = some o) (hn : ∀ cs : Array Value, o ≠ Obj.cells cs 3) : W'.heap[j]? = some o := by
  rw [h.2 j (Array.getElem?_eq_some_iff.1 hj).1 ?_]
  · exact hj
  · intro e
    rcases ho.2 with ⟨rfl, _⟩ | ⟨g, cap, cur, rfl, _, hg, _⟩
    · cases e
    · cases e
      rw [hj] at hg
      injection hg with hg
      exact hn _ hg
theorem k12_only {B l D : Nat} {r : Loop} {v : Value} {m : List Int} {W W' : World} (h : K12 l D r W) (ho : OnlyO v W W') (hv : OwnI B v m W) : K12 l D r W' :=
  ⟨onlyO_other ho hv h.1 (fun _ e => by cases e), onlyO_other ho hv h.2 (fun _ e => by cases e)⟩
theorem k12_put5 {l D bs : Nat} {r : Loop} {W : World} {cs : Array Value} {T : TypeId} (h : K12 l D r W) (hb : Blk W bs cs T) (x0 x1 x2 x3 x4 : Value) : K12 l D r (put5 W bs x0 x1 x2 x3 x4) := by
  unfold Blk at hb
  have h1 : bs ≠ l := by rintro rfl; rw [h.1] at hb; cases hb
  have h2 : bs ≠ D := by rintro rfl; rw [h.2] at hb; cases hb
  have e := fun j (hj : bs ≠ j) => (heap_setCell_other (((( W.setCell ⟨bs, 0, none⟩ x0).setCell ⟨bs, 1, none⟩ x1).setCell ⟨bs, 2, none⟩ x2).setCell ⟨bs, 3, none⟩ x3) ⟨bs, 4, none⟩ j x4 (Ne.symm hj)).trans
    ((heap_setCell_other (((W.setCell ⟨bs, 0, none⟩ x0).setCell ⟨bs, 1, none⟩ x1).setCell ⟨bs, 2, none⟩ x2) ⟨bs, 3, none⟩ j x3 (Ne.symm hj)).trans
    ((heap_setCell_other ((W.setCell ⟨bs, 0, none⟩ x0).setCell ⟨bs, 1, none⟩ x1) ⟨bs, 2, none⟩ j x2 (Ne.symm hj)).trans
    ((heap_setCell_other (W.setCell ⟨bs, 0, none⟩ x0) ⟨bs, 1, none⟩ j x1 (Ne.symm hj)).trans (heap_setCell_other W ⟨bs, 0, none⟩ j x0 (Ne.symm hj)))))
  exact ⟨(e l h1).trans h.1, (e D h2).trans h.2⟩
/-- behind one value more -/
theorem rows12_behind {B : Nat} {w : World} {ba : Nat} {ls : List (List Int)} {vs va vb : Value} {c : List Int} {q : (List Int × Clu.CS) × List Int} {W W' : World} (h : Rows12 B w ba ls vs c W) (hB : w.heap.size ≤ B) (hBW : B ≤ W.heap.size) (hb : Bhd B vs c q va vb W W') :
    Rows12 B w ba ls va q.1.1 W' ∧ OwnI B vb q.2 W' ∧ (vb.ownBlock = none ∨ vb.ownBlock ≠ va.ownBlock) := by
  obtain ⟨⟨vo, us, h1, h2, h3, h4, h5⟩, ho, hbel⟩ := h
  have hlies : Lies va vs W ∨ (∀ k, va.ownBlock = some k → W.heap.size ≤ k) := by
    rcases hb.told with ⟨_, _, _, h⟩ | ⟨_, _, h⟩
    · exact .inr h
    · exact .inl h
  refine ⟨⟨⟨vo, us, onlyO_blk hb.only rows_ne_int ho h1, own_eq h2 fun j cs hj => (onlyO_other hb.only ho hj (fun cs' e => by injection e with _ e; exact absurd e slices_ne_int)).trans hj.symm, h3, fun i u m hu hm => ?_, fun u hu => ?_⟩, hb.own, onlyO_below hb.only (ownI_mono ho hB) (Nat.le_trans hB hBW) hbel⟩, bhd_toldO hb, ?_⟩
  · exact onlyO_own (B' := B) hb.only (h4 i u m hu hm) (h5 u (List.mem_of_getElem? hu))
  · obtain ⟨i, hi, hu'⟩ := List.mem_iff_getElem.1 hu
    have hu2 : us[i]? = some u := by rw [List.getElem?_eq_getElem hi, hu']
    have hm : ls[i]? = some (ls[i]'(by omega)) := List.getElem?_eq_getElem (by omega)
    have hou := h4 i u _ hu2 hm
    rcases hlies with hl | hl
    · exact lies_apart hou (h5 u hu) hl
    · cases e : u.ownBlock with
      | none => exact .inl rfl
      | some k =>
        refine .inr fun e' => ?_
        have := hl k e'.symm
        have := (World.ownsRow.lt hou k e).2
        omega
  · rcases hb.told with ⟨rfl, _, _, hn⟩ | ⟨rfl, _, _⟩
    · cases e : vb.ownBlock with
      | none => exact .inl rfl
      | some k =>
        refine .inr fun e' => ?_
        have := hn k e'.symm
        have := (World.ownsRow.lt ho k e).2
        omega
    · exact .inl rfl
end Go.Proofs.YtiidjkhkcckmkaaGreatDoor

/- Layer 12: the iterator over clusters. -/
namespace Go.Proofs.YtiidjkhkcckmkaaGreatDoor
set_option linter.unusedSimpArgs false
set_option linter.unusedVariables false
open Go Go.RowKit Go.Lib Go.Shelf
attribute [local go_sem] Oper.semAt_some
theorem feed_step {c : List Int} {s : Clu.CS} (h : Sgm.saneB c s = true) (r : Int) : Sgm.feedI c s r = Sgm.stepI c s r := by
  unfold Sgm.feedI
  rw [if_pos h]
/-- what a round promises the iterator -/
def Yld12 (n : Nat) (B : Nat) (w : World) (ba l D : Nat) (r : Loop) (N : Nat) : Prop :=
  ∀ (ls : List (List Int)) (m : List Int) (vb vs : Value) (c : List Int) (W : World), Rows12 B w ba ls vs c W → OwnI B vb m W → (vb.ownBlock = none ∨ vb.ownBlock ≠ vs.ownBlock) → K12 l D r W → ls.length < N →
    YieldAt Fence.wide n Tryz.prog l #[vb] W fun e W' => e = .returned (.bool true) ∧ Rows12 B w ba (ls ++ [m]) vs c W' ∧ K12 l D r W' ∧ W.heap.size ≤ W'.heap.size ∧ ∀ (j : Nat) (cs : Array Value), Blk W j cs 39 → Blk W' j cs 39
set_option maxHeartbeats 6400000 in
set_option maxRecDepth 100000 in
theorem clusters1_in (n : Nat) (hn : 1 ≤ n) (B : Nat) (w W : World) (ba bl l D : Nat) (r : Loop) (p : Option Addr) (cap : Nat) (L : List Int) (hL : L.length ≤ 100000) (hB : w.heap.size ≤ B) (hBW : B ≤ W.heap.size)
    (hbl : Blk W bl #[.slice p L.length cap] 24) (hv : RI w (.slice p L.length cap) L) (hk : K12 l D r W) (hrows : Rows12 B w ba [] (.slice none 0 0) [] W)
    (hY : Yld12 (n - 1) B w ba l D r (L.length + 1)) :
    CallsIn Fence.wide n Tryz.prog 157 #[.func (.yield l) #[] #[], .pointer (some ⟨bl, 0, none⟩)] W fun e W' => (∃ v, e = .returned v) ∧ ∃ vs c, Rows12 B w ba (Sgm.allI L) vs c W' ∧ K12 l D r W' := by
  obtain ⟨A, hA⟩ : ∃ A, Sgm.allI L = A := ⟨_, rfl⟩
  rw [hA]
  replace hA := Lib.hid hA
  obtain ⟨O, hO⟩ : ∃ O, Obj.cells #[.slice none 0 0, .bool false, .int .i64 0, .bool false, .bool false] 39 = O := ⟨_, rfl⟩
  have hwW := hrows.below.size
  obtain ⟨W1, hW1⟩ : ∃ W1, W.alloc (.cells #[.slice none 0 0, .bool false, .int .i64 0, .bool false, .bool false] 39) = W1 := ⟨_, rfl⟩
  have hrows1 := Lib.hid (rows12_of hrows (hrows.below.alloc hrows.below.size (.cells #[.slice none 0 0, .bool false, .int .i64 0, .bool false, .bool false] 39)) fun j cs T hj _ => Below.heap_alloc W _ j (Array.getElem?_eq_some_iff.1 hj).1)
  have hk1 : RowKit.Hid (K12 l D r (W.alloc (.cells #[.slice none 0 0, .bool false, .int .i64 0, .bool false, .bool false] 39))) := ⟨(Below.heap_alloc W _ l (Array.getElem?_eq_some_iff.1 hk.1).1).trans hk.1, (Below.heap_alloc W _ D (Array.getElem?_eq_some_iff.1 hk.2).1).trans hk.2⟩
  have hbx1 := Lib.hid (blk_new W #[.slice none 0 0, .bool false, .int .i64 0, .bool false, .bool false] 39)
  have hbl1 := blk_alloc hbl (.cells #[.slice none 0 0, .bool false, .int .i64 0, .bool false, .bool false] 39)
  have hsz1 : B ≤ (W.alloc (.cells #[.slice none 0 0, .bool false, .int .i64 0, .bool false, .bool false] 39)).heap.size := by simp; omega
  obtain ⟨bs, hbs⟩ : ∃ bs, W.heap.size = bs := ⟨_, rfl⟩
  rw [hW1] at hrows1 hk1 hbx1 hbl1 hsz1
  rw [hbs] at hbx1 hwW
  have hc0 : W1.cell? ⟨bl, 0, none⟩ = some (.slice p L.length cap) := blk_cell hbl1 0 _ rfl
  replace hrows := Lib.hid hrows
  replace hk := Lib.hid hk
  replace hv := Lib.hid hv
  replace hY := Lib.hid hY
  replace hbl := Lib.hid hbl
  replace hbl1 := Lib.hid hbl1
  replace hW1 := Lib.hid hW1
  replace hbs := Lib.hid hbs
  replace hsz1 := Lib.hid hsz1
  replace hwW := Lib.hid hwW
  clear hBW hO O
  refine callsIn_of_wp Tryz.func157 rfl trivial ?_ rfl
  simp only [Tryz.ntmps157, List.size_toArray, List.length_cons, List.length_nil, Nat.reduceAdd, Nat.reduceSub, Array.replicate_succ, Array.replicate_zero, List.push_toArray, List.append_toArray, List.nil_append, List.cons_append]
  gi_upto_region 1 with fail
  rw [hW1.out, hbs.out]
  gi_wp2
  gi_loopg [9] L.length (fun g vi wr => ∃ (k : Nat) (ls : List (List Int)) (c : List Int) (s : Clu.CS) (vs : Value), k ≤ L.length ∧ vi = .int .i64 k ∧ g = L.length - k ∧ Blk wr bs #[vs, .bool s.on, .int .i64 s.kind, .bool s.pict, .bool s.odd] 39 ∧ Sgm.saneB c s = true ∧ ls ++ Sgm.segs c s (L.drop k) = A ∧ ls.length ≤ k ∧ Rows12 B w ba ls vs c wr ∧ K12 l D r wr ∧ B ≤ wr.heap.size)
  case atStart => exact ⟨0, [], [], Clu.zero, .slice none 0 0, Nat.zero_le _, rfl, rfl, hbx1.out, by decide, hA.out, Nat.le_refl _, hrows1.out, hk1.out, hsz1.out⟩
  case round =>
    obtain ⟨k, ls, c, s, vs, hk, rfl, rfl, hbox, hsan, hall, hfew, hrw, hkk, hBr⟩ := hrel
    have hcl : c.length ≤ 32 := by
      unfold Sgm.saneB at hsan
      simp only [Bool.and_eq_true, decide_eq_true_eq] at hsan
      exact hsan.1.1
    obtain ⟨ps, cs, rfl⟩ := ri_form (ri_of_own hrw.own)
    by_cases hlt : k < L.length
    · have hlt' : (k : Int) < (L.length : Int) := by omega
      obtain ⟨b, off, rfl, hb, hcell⟩ := ri_at hv.out (by omega)
      have hc := (hrw.below.cell hb).trans (hcell k hlt)
      obtain ⟨x, hx⟩ : ∃ x, L[k] = x := ⟨_, rfl⟩
      rw [List.drop_eq_getElem_cons hlt, Sgm.segs_fed hsan, feed_step hsan] at hall
      have hfs := Sgm.feed_sane c s L[k]
      rw [feed_step hsan] at hfs
      rw [hx] at hc hall hfs
      have hbeh := behind_any B (.slice ps c.length cs) c s x wr hcl hrw.own hBr
      obtain ⟨q, hq⟩ : ∃ q, Sgm.stepI c s x = q := ⟨_, rfl⟩
      rw [hq] at hall hfs hbeh
      obtain ⟨⟨q1, N⟩, q2⟩ := q
      obtain ⟨on, kd, pi, od⟩ := s
      obtain ⟨xa, xb, xc, xd⟩ := N
      unfold sgV at hbeh
      dsimp only at hbeh hall hfs hbox
      have b0 := blk_cell hbox 0 _ rfl
      have b1 := blk_cell hbox 1 _ rfl
      have b2 := blk_cell hbox 2 _ rfl
      have b3 := blk_cell hbox 3 _ rfl
      have b4 := blk_cell hbox 4 _ rfl
      replace hbeh := Lib.hid hbeh
      replace hrw := Lib.hid hrw
      replace hkk := Lib.hid hkk
      replace hbox := Lib.hid hbox
      replace hall := Lib.hid hall
      replace hfs := Lib.hid hfs
      replace hsan := Lib.hid hsan
      replace hBr := Lib.hid hBr
      clear hcell hx hq
      gi_upto_region 6 with (refine ⟨trivial, ?_⟩; gi_at_call 98; refine (callsIn_wide.2 hbeh.out).mono ?_; rintro e w2 ⟨va, vb, rfl, hbh⟩; obtain ⟨pa, qa, rfl⟩ := ri_form (ri_of_own hbh.own); obtain ⟨pb, qb, rfl⟩ := ri_form (ri_of_own (bhd_toldO hbh)); have hr2 := rows12_behind hrw.out hB hBr.out hbh; have hbx2 := onlyO_blk hbh.only state_ne hrw.out.own hbox.out; have hk2 := Lib.hid (k12_only hkk.out hbh.only hrw.out.own); have c0 := blk_cell hbx2 0 _ rfl; have c1 := blk_cell hbx2 1 _ rfl; have c2 := blk_cell hbx2 2 _ rfl; have c3 := blk_cell hbx2 3 _ rfl; have c4 := blk_cell hbx2 4 _ rfl; have f0 := blk_thaw hbx2 0; have f1 := blk_thaw hbx2 1; have f2 := blk_thaw hbx2 2; have f3 := blk_thaw hbx2 3; have f4 := blk_thaw hbx2 4; replace hr2 := Lib.hid hr2; replace hbx2 := Lib.hid hbx2; replace hbh := Lib.hid hbh)
      have hr3 := Lib.hid (rows12_put5 hr2.out.1 hbx2.out hwW.out (.slice pa q1.length qa) (.bool xa) (.int .i64 xb) (.bool xc) (.bool xd))
      have hv3 := Lib.hid (own_put5 hr2.out.2.1 (own_none (own_off12 state_ne hr2.out.2.1 hbx2.out)) (.slice pa q1.length qa) (.bool xa) (.int .i64 xb) (.bool xc) (.bool xd))
      have hx3 := Lib.hid (blk_put5 hbx2.out (.slice pa q1.length qa) (.bool xa) (.int .i64 xb) (.bool xc) (.bool xd))
      have hk3 := Lib.hid (k12_put5 hk2.out hbx2.out (.slice pa q1.length qa) (.bool xa) (.int .i64 xb) (.bool xc) (.bool xd))
      have hap := Lib.hid hr2.out.2.2
      have hs3 := Lib.hid (show B ≤ (put5 w2 bs (.slice pa q1.length qa) (.bool xa) (.int .i64 xb) (.bool xc) (.bool xd)).heap.size from Nat.le_trans hBr.out (Nat.le_trans hbh.out.only.1.size (below_put5 (n := 0) (Below.refl 0 w2) (Nat.zero_le _) _ _ _ _ _).size))
      try dsimp only at hr3 hv3
      obtain ⟨W3, hW3⟩ : ∃ W3, put5 w2 bs (.slice pa q1.length qa) (.bool xa) (.int .i64 xb) (.bool xc) (.bool xd) = W3 := ⟨_, rfl⟩
      rw [hW3] at hr3 hv3 hx3 hk3 hs3
      unfold put5 at hW3
      rw [hW3]
      replace hW3 := Lib.hid hW3
      clear c0 c1 c2 c3 c4 f0 f1 f2 f3 f4 b0 b1 b2 b3 b4 hc
      by_cases h2 : q2.length = 0
      · have hq0 := List.eq_nil_of_length_eq_zero h2
        have hall' : ls ++ Sgm.segs q1 ⟨xa, xb, xc, xd⟩ (L.drop (k + 1)) = A := by have h := hall.out; rw [if_pos hq0] at h; exact h
        replace hall' := Lib.hid hall'
        replace h2 : ¬ 0 < q2.length := by omega
        replace hq0 := Lib.hid hq0
        gi_wp2
        refine ⟨fun _ h => (by cases h), ?_⟩
        gi_wp2
        gi_roundg (L.length - (k + 1))
        case measure => omega
        case rel => exact ⟨k + 1, ls, q1, ⟨xa, xb, xc, xd⟩, _, by omega, by simp, rfl, hx3.out, hfs.out, hall'.out, by omega, hr3.out, hk3.out, hs3.out⟩
      · have hq0 : q2 ≠ [] := fun e => h2 (by rw [e]; rfl)
        have hall' : (ls ++ [q2]) ++ Sgm.segs q1 ⟨xa, xb, xc, xd⟩ (L.drop (k + 1)) = A := by have h := hall.out; rw [if_neg hq0] at h; simpa using h
        replace hall' := Lib.hid hall'
        replace h2 : 0 < q2.length := by omega
        replace hq0 := Lib.hid hq0
        obtain ⟨fn, tmps, assign, body, hy, hR⟩ := hY.out ls q2 (.slice pb q2.length qb) (.slice pa q1.length qa) q1 W3 hr3.out hv3.out hap.out hk3.out (by omega)
        replace hR := Lib.hid hR
        gi_wp2
        refine hR.out.mono ?_
        rintro e W4 ⟨rfl, hr4, hk4, hs4, hkeep⟩
        have hs4' := Lib.hid (Nat.le_trans hs3.out hs4)
        have hx4 := Lib.hid (hkeep _ _ hx3.out)
        replace hs4 := Lib.hid hs4
        replace hr4 := Lib.hid hr4
        replace hk4 := Lib.hid hk4
        replace hkeep := Lib.hid hkeep
        gi_wp2
        gi_roundg (L.length - (k + 1))
        case measure => omega
        case rel => exact ⟨k + 1, ls ++ [q2], q1, ⟨xa, xb, xc, xd⟩, _, by omega, by simp, rfl, hx4.out, hfs.out, hall'.out, by simp; omega, hr4.out, hk4.out, hs4'.out⟩
    · obtain rfl : k = L.length := by omega
      rw [List.drop_length] at hall
      obtain ⟨on, kd, pi, od⟩ := s
      dsimp only at hbox
      have hA' : ls ++ (if c = [] then [] else [c]) = A := by rw [← hall]; rfl
      have b0 := blk_cell hbox 0 _ rfl
      replace hA' := Lib.hid hA'
      replace hrw := Lib.hid hrw
      replace hkk := Lib.hid hkk
      replace hbox := Lib.hid hbox
      clear hall hsan
      by_cases h2 : c.length = 0
      · have hq0 := List.eq_nil_of_length_eq_zero h2
        have hall' : ls = A := by have h := hA'.out; rw [if_pos hq0] at h; simpa using h
        replace hall' := Lib.hid hall'
        replace h2 : ¬ 0 < c.length := by omega
        replace hq0 := Lib.hid hq0
        gi_wp2
        go_end0
        exact ⟨⟨_, rfl⟩, _, _, hall'.out ▸ hrw.out, hkk.out⟩
      · have hq0 : c ≠ [] := fun e => h2 (by rw [e]; rfl)
        have hall' : ls ++ [c] = A := by have h := hA'.out; rw [if_neg hq0] at h; exact h
        replace hall' := Lib.hid hall'
        replace h2 : 0 < c.length := by omega
        replace hq0 := Lib.hid hq0
        obtain ⟨fn, tmps, assign, body, hy, hR⟩ := hY.out ls c (.slice ps c.length cs) (.slice none 0 0) [] wr (rows12_nil hrw.out) hrw.out.own (by cases ps with | none => exact .inl rfl | some a => exact .inr (fun e => by cases e)) hkk.out (by omega)
        replace hR := Lib.hid hR
        gi_wp2
        refine hR.out.mono ?_
        rintro e W4 ⟨rfl, hr4, hk4, hs4, hkeep⟩
        replace hs4 := Lib.hid hs4
        replace hr4 := Lib.hid hr4
        replace hk4 := Lib.hid hk4
        replace hkeep := Lib.hid hkeep
        gi_wp2
        go_end0
        exact ⟨⟨_, rfl⟩, _, _, hall'.out ▸ hr4.out, hk4.out⟩
end Go.Proofs.YtiidjkhkcckmkaaGreatDoor

/- Layer 12: the code's All. -/
namespace Go.Proofs.YtiidjkhkcckmkaaGreatDoor
set_option linter.unusedSimpArgs false
set_option linter.unusedVariables false
open Go Go.RowKit Go.Lib Go.Shelf
attribute [local go_sem] Oper.semAt_some
theorem row_offT {B n b : Nat} {v : Value} {xs : List Value} {W : World} {cs : Array Value} {T T' : TypeId} (hT : T' ≠ T) (h : W.ownsRow B T 1 v n xs) (hb : Blk W b cs T') : v.ownBlock ≠ some b := by
  intro e
  rcases h.2 with ⟨rfl, _⟩ | ⟨g, cap, cur, rfl, _, hg, _⟩
  · cases e
  · cases e
    unfold Blk at hb
    rw [hb] at hg
    injection hg with hg
    injection hg with _ hg
    exact hT hg
/-- a cluster more in All's variable -/
theorem rows12_more {B : Nat} {w : World} {ba : Nat} {ls : List (List Int)} {m : List Int} {vs vo vb v' : Value} {c : List Int} {us : List Value} {W W4 : World} (h : Rows12 B w ba ls vs c W) (hwB : w.heap.size ≤ B) (hwa : w.heap.size ≤ ba) (h1 : Blk W ba #[vo] 92) (h2 : W.ownsRow B 24 1 vo ls.length us) (h3 : us.length = ls.length)
    (h4 : ∀ (i : Nat) (u : Value) (m : List Int), us[i]? = some u → ls[i]? = some m → OwnI B u m W) (h5 : ∀ u ∈ us, u.ownBlock = none ∨ u.ownBlock ≠ vs.ownBlock) (hvb : OwnI B vb m W) (hap : vb.ownBlock = none ∨ vb.ownBlock ≠ vs.ownBlock)
    (hown : W4.ownsRow B 24 1 v' (ls.length + 1) (us ++ [vb])) (hg : (W.alloc (.cells #[vb] 24)).grownBy W4 vo.ownBlock) :
    Rows12 B w ba (ls ++ [m]) vs c (W4.setCell ⟨ba, 0, none⟩ v') ∧ W.heap.size ≤ (W4.setCell ⟨ba, 0, none⟩ v').heap.size ∧
      ∀ (j : Nat) (o : Obj), W.heap[j]? = some o → (∀ cs : Array Value, o ≠ .cells cs 24) → (∀ cs : Array Value, o ≠ .cells cs 92) → (W4.setCell ⟨ba, 0, none⟩ v').heap[j]? = some o := by
  have hkeep : ∀ (j : Nat) (o : Obj), W.heap[j]? = some o → (∀ cs : Array Value, o ≠ .cells cs 24) → (∀ cs : Array Value, o ≠ .cells cs 92) → (W4.setCell ⟨ba, 0, none⟩ v').heap[j]? = some o := by
    intro j o hj hn1 hn2
    have hjb : j ≠ ba := by
      rintro rfl
      unfold Blk at h1
      rw [hj] at h1
      injection h1 with h1
      exact hn2 _ h1
    have hjlt := (Array.getElem?_eq_some_iff.1 hj).1
    rw [heap_setCell_other W4 ⟨ba, 0, none⟩ j v' hjb, hg.block j (by simp; omega) ?_, Below.heap_alloc W _ j hjlt]
    · exact hj
    · intro e
      rcases h2.2 with ⟨rfl, _⟩ | ⟨g, cap, cur, rfl, _, hgg, _⟩
      · cases e
      · cases e
        rw [hj] at hgg
        injection hgg with hgg
        exact hn1 _ hgg
  have hint : ∀ (u : Value) (l : List Int), OwnI B u l W → OwnI B u l (W4.setCell ⟨ba, 0, none⟩ v') := fun u l hu => own_eq hu fun j cs hj => (hkeep j _ hj (fun cs' e => by injection e with _ e; exact absurd e.symm slices_ne_int) (fun cs' e => by injection e with _ e; exact absurd e.symm rows_ne_int)).trans hj.symm
  have hb4 : Blk W4 ba #[vo] 92 := blk_grown (blk_alloc h1 _) hg (fun e => row_offT rows_ne_slices h2 h1 e.symm)
  have hbel : Below w.heap.size w (W4.setCell ⟨ba, 0, none⟩ v') := by
    refine Below.setCell ?_ hwa v'
    have ha : Below w.heap.size w (W.alloc (.cells #[vb] 24)) := h.below.alloc h.below.size _
    refine ha.grown hg ha.size fun k e => ?_
    exact Nat.le_trans hwB (World.ownsRow.lt h2 k e).1
  refine ⟨⟨⟨v', us ++ [vb], blk_set hb4, row_set (by simpa using hown) _ _ (.inr (row_offT rows_ne_slices hown hb4)), by simp [h3], fun i u l hu hl => ?_, fun u hu => ?_⟩, hint _ _ h.own, hbel⟩, ?_, hkeep⟩
  · by_cases hi : i < us.length
    · rw [List.getElem?_append_left hi] at hu
      rw [List.getElem?_append_left (by omega)] at hl
      exact hint _ _ (h4 i u l hu hl)
    · have hi2 : i = us.length := by
        have := (List.getElem?_eq_some_iff.1 hu).1
        simp at this
        omega
      subst hi2
      rw [List.getElem?_append_right (Nat.le_refl _), Nat.sub_self] at hu
      rw [List.getElem?_append_right (by omega), h3, Nat.sub_self] at hl
      simp at hu hl
      subst hu
      subst hl
      exact hint _ _ hvb
  · rcases List.mem_append.1 hu with hu | hu
    · exact h5 u hu
    · rw [List.mem_singleton] at hu
      subst hu
      exact hap
  · have := hg.size
    have e : (W4.setCell ⟨ba, 0, none⟩ v').heap.size = W4.heap.size := by simp
    rw [e]
    simp at this
    omega
theorem rr_of_rows {B : Nat} {w : World} {ba : Nat} {ls : List (List Int)} {vs vo : Value} {c : List Int} {W : World} (h : Rows12 B w ba ls vs c W) (hb : Blk W ba #[vo] 92) : OwnR B vo ls W := by
  obtain ⟨vo', us, h1, h2, h3, h4, _⟩ := h.all
  unfold Blk at h1 hb
  rw [hb] at h1
  cases h1
  exact ⟨us, h2, h3, h4⟩
theorem loop_letter {P : Loop → Prop} {X : Loop} (h : ∀ r, r = X → P r) : P X := h X rfl
theorem k12_new (w : World) (r : Loop) : K12 (w.heap.size + 1) w.heap.size r ((w.alloc (.deferred (some []))).alloc (.loop r)) := by
  have h1 := World.alloc_heap_new (w.alloc (.deferred (some []))) (.loop r)
  rw [World.size_alloc] at h1
  exact ⟨h1, (Below.heap_alloc _ _ _ (by simp)).trans (World.alloc_heap_new w _)⟩
theorem rows12_dfr {B : Nat} {w : World} {ba l : Nat} {ls : List (List Int)} {vs : Value} {c : List Int} {W : World} {ds : Option (List Deferred)} (h : Rows12 B w ba ls vs c W) (hl : W.heap[l]? = some (.deferred ds)) (hw : w.heap.size ≤ l) (o : Obj) : Rows12 B w ba ls vs c (W.putObj l o) := by
  refine rows12_of h (h.below.trans (belowK_b (w := w) (Nat.le_refl _) W l _ o hw hl rfl rfl)) fun j cs T hj _ => World.putObj_heap_other ?_
  rintro rfl
  rw [hl] at hj
  cases hj
theorem clusters_any (p : Option Addr) (n c : Nat) (w : World) : Calls Tryz.prog 128 #[.slice p n c] w fun e w' => e = .returned (.func (.func 157) #[] #[.pointer (some ⟨w.heap.size, 0, none⟩)]) ∧ w' = w.alloc (.cells #[.slice p n c] 24) := by
  go_enter Tryz.func128, Tryz.ntmps128
  go_wp2_with fail
  go_ret
  exact ⟨rfl, rfl⟩
set_option maxHeartbeats 6400000 in
set_option maxRecDepth 100000 in
theorem all12_any (v : Value) (L : List Int) (w : World) (hl : L.length ≤ 100000) (hv : RI w v L) : Calls Tryz.prog 89 #[v] w (ToldR (Sgm.allI L) w) := by
  obtain ⟨i0, hi, hz0, hz1, hz2⟩ := info_parts info_r
  obtain ⟨p, cap, rfl⟩ := ri_form hv
  obtain ⟨w1, hw1⟩ : ∃ w1, w.alloc (.cells #[.slice none 0 0] 92) = w1 := ⟨_, rfl⟩
  obtain ⟨w2, hw2⟩ : ∃ w2, w1.alloc (.cells #[.slice p L.length cap] 24) = w2 := ⟨_, rfl⟩
  have hs1 : w1.heap.size = w.heap.size + 1 := by rw [← hw1]; simp
  have hs2 : w2.heap.size = w.heap.size + 2 := by rw [← hw2]; simp [hs1]
  have hba1 : Blk w1 w.heap.size #[.slice none 0 0] 92 := hw1 ▸ blk_new w _ _
  have hba2 : Blk w2 w.heap.size #[.slice none 0 0] 92 := hw2 ▸ blk_alloc hba1 _
  have hbl2 : Blk w2 (w.heap.size + 1) #[.slice p L.length cap] 24 := by rw [← hw2, ← hs1]; exact blk_new w1 _ _
  have hb2 : Below w.heap.size w w2 := by rw [← hw2, ← hw1]; exact (below_new w _).alloc (by simp) _
  have hrows2 : Rows12 w2.heap.size w w.heap.size [] (.slice none 0 0) [] w2 := ⟨⟨_, [], hba2, World.ownsRow_nil _ _ _ _, rfl, fun i u m hu _ => by simp at hu, fun u hu => by simp at hu⟩, ownI_nil _ _, hb2⟩
  replace hw1 := Lib.hid hw1
  replace hw2 := Lib.hid hw2
  refine (callsIn_wide (n := 5)).1 ?_
  refine callsIn_of_wp_marks Tryz.func89 rfl trivial ?_ rfl
  simp only [Tryz.ntmps89, List.size_toArray, List.length_cons, List.length_nil, Nat.reduceAdd, Nat.reduceSub, Array.replicate_succ, Array.replicate_zero, List.push_toArray, List.append_toArray, List.nil_append, List.cons_append]
  gi_upto_region 2 with fail
  rw [hw1.out]
  gi_wp2_with (refine ⟨trivial, ?_⟩; gi_at_call 128; refine (callsIn_wide.2 (clusters_any _ _ _ _)).mono ?_; rintro e w' ⟨rfl, rfl⟩)
  rw [hw2.out]
  refine wpIn_rangeFunc_ours (gf := 157) (lb := #[.pointer (some ⟨w.heap.size + 1, 0, none⟩)]) rfl (by omega) rfl trivial (enters_of Tryz.func157 (by kernel_rfl) rfl) ?_
  intro fn hfn
  have hbD : Below w.heap.size w (w2.alloc (.deferred (some []))) := hb2.alloc hb2.size _
  have hrows3 := fun o => rows12_of (rows12_of hrows2 hbD fun j cs T hj _ => Below.heap_alloc w2 _ j (Array.getElem?_eq_some_iff.1 hj).1) (hbD.alloc hbD.size o) fun j cs T hj _ => Below.heap_alloc _ _ j (Array.getElem?_eq_some_iff.1 hj).1
  refine (clusters1_in (5 - 1) (by omega) w2.heap.size w _ w.heap.size (w.heap.size + 1) (w2.heap.size + 1) w2.heap.size _ p cap L hl (by omega) (by simp; omega) (blk_alloc (blk_alloc hbl2 _) _) hv (k12_new w2 _) (hrows3 _) ?yld).mono ?_
  case yld =>
    refine loop_letter (P := fun r => Yld12 _ _ _ _ _ _ r _) (fun r hr => ?_)
    have hst := congrArg Loop.state hr
    have hpe := congrArg Loop.pending hr
    have hfn' := congrArg Loop.fn hr
    have hpa := congrArg Loop.params hr
    have htm := congrArg Loop.tmps hr
    have has := congrArg Loop.assign hr
    have hbo := congrArg Loop.body hr
    dsimp only at hst hpe hfn' hpa htm has hbo
    clear hr
    replace hbo := Lib.hid hbo
    replace has := Lib.hid has
    replace htm := Lib.hid htm
    replace hpa := Lib.hid hpa
    replace hst := Lib.hid hst
    replace hpe := Lib.hid hpe
    replace hfn' := Lib.hid hfn'
    intro ls m vb vs c W hrw hvb hap hkk hlen
    obtain ⟨pb, qb, rfl⟩ := ri_form (ri_of_own hvb)
    refine yieldAt_ours trivial hkk.1 hst.out hpe.out (by rw [hpa.out]; rfl) { tmps := #[.slice p L.length cap, undef, .slice none 0 0, .pointer (some ⟨w.heap.size, 0, none⟩), .slice pb m.length qb, .slice p L.length cap, .func (.func 157) #[] #[.pointer (some ⟨w.heap.size + 1, 0, none⟩)], .slice pb m.length qb, undef, undef, undef, undef, undef], defers := [] } ?assign ?body
    case assign =>
      intro K hK
      rw [has.out, hpa.out, htm.out]
      gi_wp2
      exact hK
    case body =>
      have hlB := (Array.getElem?_eq_some_iff.1 hkk.1).1
      obtain ⟨o, ho⟩ : ∃ o, Obj.loop { r with state := .busy } = o := ⟨_, rfl⟩
      have hrb := rows12_loop hrw hkk.1 (by omega) o
      have hvbb := ownsRow_putObj hvb (l := w2.heap.size + 1) o hkk.1 rfl
      have hlb := World.putObj_heap_same (o := o) hlB
      have hDb := (World.putObj_heap_other (o := o) (w := W) (r := w2.heap.size + 1) (k := w2.heap.size) (by omega)).trans hkk.2
      have hSb : ∀ (j : Nat) (cs : Array Value), Blk W j cs 39 → Blk (W.putObj (w2.heap.size + 1) o) j cs 39 := by
        intro j cs hj
        have hne : j ≠ w2.heap.size + 1 := by
          rintro rfl
          unfold Blk at hj
          rw [hkk.1] at hj
          cases hj
        exact (World.putObj_heap_other hne).trans hj
      have hWs : W.heap.size = (W.putObj (w2.heap.size + 1) o).heap.size := by simp
      rw [ho, hbo.out]
      obtain ⟨Wb, hWb⟩ : ∃ Wb, W.putObj (w2.heap.size + 1) o = Wb := ⟨_, rfl⟩
      rw [hWb] at hrb hvbb hlb hDb hSb hWs ⊢
      obtain ⟨vo, us, h1, h2, h3, h4, h5⟩ := hrb.all
      have hB : w2.heap.size + 1 < Wb.heap.size := (Array.getElem?_eq_some_iff.1 hlb).1
      have c0 := blk_cell h1 0 _ rfl
      have f0 := blk_thaw h1 0
      have hr2 := Lib.hid (World.ownsRow.alloc h2 (.cells #[.slice pb m.length qb] 24))
      have hsz := Lib.hid (show w2.heap.size ≤ (Wb.alloc (.cells #[.slice pb m.length qb] 24)).heap.size by simp; omega)
      have hb1 := Lib.hid (blk_alloc h1 (.cells #[.slice pb m.length qb] 24))
      replace h1 := Lib.hid h1
      replace h2 := Lib.hid h2
      replace h3 := Lib.hid h3
      replace h4 := Lib.hid h4
      replace h5 := Lib.hid h5
      replace hrw := Lib.hid hrw
      replace hrb := Lib.hid hrb
      replace hkk := Lib.hid hkk
      replace hvb := Lib.hid hvb
      replace hvbb := Lib.hid hvbb
      replace hlb := Lib.hid hlb
      replace hDb := Lib.hid hDb
      replace hSb := Lib.hid hSb
      replace hap := Lib.hid hap
      replace hWs := Lib.hid hWs
      replace ho := Lib.hid ho
      replace hWb := Lib.hid hWb
      replace hrows2 := Lib.hid hrows2
      replace hrows3 := Lib.hid hrows3
      replace hbD := Lib.hid hbD
      replace hb2 := Lib.hid hb2
      replace hs1 := Lib.hid hs1
      replace hs2 := Lib.hid hs2
      replace hba1 := Lib.hid hba1
      replace hba2 := Lib.hid hba2
      replace hbl2 := Lib.hid hbl2
      replace hB := Lib.hid hB
      replace hlB := Lib.hid hlB
      gi_wp2_with (gi_at_builtin; refine wpListIn_append_own _ rfl _ _ 92 rfl w2.heap.size 24 i0 (.slice none 0 0) 1 24 Tryz.underlying92 hi hz0 hz1 hz2 rfl (by decide) _ _ _ rfl hr2.out ⟨Wb.heap.size, 0, none⟩ 1 1 [.slice pb m.length qb] rfl rfl (cell_one12 Wb (.slice pb m.length qb) 24) (by simp [Value.oneCell']) (by unfold maxLen; omega) (by omega) hsz.out ?_; intro v5 w5 hown5 hgrow5 _; have hmore := rows12_more hrb.out (by have := hs2.out; omega) (Nat.le_refl _) h1.out h2.out h3.out h4.out h5.out hvbb.out hap.out hown5 hgrow5; have hb5 := blk_grown hb1.out hgrow5 (fun e => row_offT rows_ne_slices h2.out h1.out e.symm); obtain ⟨g5, q5, rfl⟩ := ownsRow_succ hown5; have c5 := blk_cell hb5 0 _ rfl; have f5 := blk_thaw hb5 0; replace hmore := Lib.hid hmore; replace hb5 := Lib.hid hb5; replace hown5 := Lib.hid hown5; replace hgrow5 := Lib.hid hgrow5)
      obtain ⟨m1, m2, m3⟩ := hmore.out
      have hno : ∀ (T : TypeId) (cs : Array Value), o ≠ .cells cs T := fun T cs e => by rw [← ho.out] at e; cases e
      have hl5 := m3 _ o hlb.out (hno _) (hno _)
      have hD5 := m3 _ _ hDb.out (fun cs e => by cases e) (fun cs e => by cases e)
      have hl5' := hl5
      rw [← ho.out] at hl5'
      refine ⟨hl5, trivial, rows12_loop m1 hl5' (by have := hs2.out; omega) _, ⟨World.putObj_heap_same (Array.getElem?_eq_some_iff.1 hl5).1, (World.putObj_heap_other (by omega)).trans hD5⟩, ?_, fun j cs hj => ?_⟩
      · rw [World.putObj_size]
        have := hWs.out
        omega
      · have hj2 := m3 j _ (hSb.out j cs hj) (fun cs' e => by injection e with _ e; exact absurd e state_ne_slices) (fun cs' e => by injection e with _ e; exact absurd e state_ne_rows)
        refine (World.putObj_heap_other ?_).trans hj2
        rintro rfl
        have h1' := hkk.out.1
        unfold Blk at hj
        rw [hj] at h1'
        cases h1'
  · rintro e W ⟨⟨v, rfl⟩, vs, c, hrw, hkk⟩
    refine ⟨⟨v, rfl⟩, _, hkk.1, by simp, rfl, fun o => ?_⟩
    have hrf := rows12_loop hrw hkk.1 (by omega) o
    have hDf := (World.putObj_heap_other (o := o) (w := W) (r := w2.heap.size + 1) (k := w2.heap.size) (by omega)).trans hkk.2
    obtain ⟨Wf, hWf⟩ : ∃ Wf, W.putObj (w2.heap.size + 1) o = Wf := ⟨_, rfl⟩
    rw [hWf] at hrf hDf ⊢
    obtain ⟨vo, us, h1, _⟩ := hrf.all
    have c0 := blk_cell h1 0 _ rfl
    have hfin := rows12_dfr hrf hDf (by omega) (.deferred none)
    have h1f : Blk (Wf.putObj w2.heap.size (.deferred none)) w.heap.size #[vo] 92 := by
      refine (World.putObj_heap_other ?_).trans h1
      omega
    replace hrf := Lib.hid hrf
    replace hfin := Lib.hid hfin
    replace h1 := Lib.hid h1
    replace h1f := Lib.hid h1f
    replace hDf := Lib.hid hDf
    replace hrw := Lib.hid hrw
    replace hkk := Lib.hid hkk
    replace hWf := Lib.hid hWf
    replace hrows2 := Lib.hid hrows2
    replace hrows3 := Lib.hid hrows3
    replace hbD := Lib.hid hbD
    replace hb2 := Lib.hid hb2
    replace hs1 := Lib.hid hs1
    replace hs2 := Lib.hid hs2
    replace hba1 := Lib.hid hba1
    replace hba2 := Lib.hid hba2
    replace hbl2 := Lib.hid hbl2
    gi_wp2
    refine ⟨by simp, .inl ⟨_, _, rfl, run_takeDeferred hDf.out, ?_⟩⟩
    exact ⟨_, results_tmp rfl _ _ _, vo, rfl, rr_of_ownR (rr_of_rows hfin.out h1f.out), hfin.out.below⟩
end Go.Proofs.YtiidjkhkcckmkaaGreatDoor

