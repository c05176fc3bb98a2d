/- Layer 10: the document's All. -/
import Derived.Test.YtfmnecknfmgggaaGreatDoorFoR2
namespace Go.Proofs.YtfmnecknfmgggaaGreatDoor
set_option linter.unusedSimpArgs false
set_option linter.unusedVariables false
open Go.RowKit Go.Lib

theorem feds_app (l a b : List Int) : Fol.fedsI l (a ++ b) = ((Fol.fedsI (Fol.fedsI l a).1 b).1, (Fol.fedsI l a).2 ++ (Fol.fedsI (Fol.fedsI l a).1 b).2) := by
  induction a generalizing l with
  | nil => simp [Fol.fedsI]
  | cons r t ih =>
    simp only [List.cons_append, Fol.fedsI]
    rw [ih]
    simp
theorem feds_snoc (a : List Int) (r : Int) : Fol.fedsI [] (a ++ [r]) = ((Fol.feedI (Fol.fedsI [] a).1 r).1, (Fol.fedsI [] a).2 ++ (Fol.feedI (Fol.fedsI [] a).1 r).2) := by
  rw [feds_app]
  simp [Fol.fedsI]
theorem kept_feds (a : List Int) : Nor.Kept (Fol.fedsI [] a).1 := by
  rw [Fol.feds_left Nor.kept_nil]
  exact Nor.kept_feeds _

def Mid10 (T : TypeId) (wq : World) (q : List Int × List Int) (u t : Value) (wx : World) : Prop :=
  ∃ (bt : Nat) (va : Value), u = .pointer (some ⟨bt, 0, none⟩) ∧ wq.heap.size ≤ bt ∧ Blk wx bt #[va] T ∧ RI wx va q.1 ∧ RI wx t q.2 ∧ (OwnI wq.heap.size va q.1 wx ∨ t = .slice none 0 0) ∧ Below wq.heap.size wq wx

theorem mid10_first {T : TypeId} {wq w2 : World} {q : List Int × List Int} {va t : Value} (ha : RI w2 va q.1) (ht : RI w2 t q.2) (hor : OwnI (wq.alloc (.cells #[.slice none 0 0] T)).drew.heap.size va q.1 w2 ∨ t = .slice none 0 0) (hb2 : Below (wq.alloc (.cells #[.slice none 0 0] T)).drew.heap.size (wq.alloc (.cells #[.slice none 0 0] T)).drew w2) :
    Mid10 T wq q (.pointer (some ⟨wq.heap.size, 0, none⟩)) t (w2.setCell ⟨wq.heap.size, 0, none⟩ va) := by
  have hA : Below wq.heap.size wq (wq.alloc (.cells #[.slice none 0 0] T)).drew := ((Below.refl _ _).alloc (Nat.le_refl _) _).drew
  have hlt : wq.heap.size < (wq.alloc (.cells #[.slice none 0 0] T)).drew.heap.size := by simp
  have hblk := blk_below (w := (wq.alloc (.cells #[.slice none 0 0] T)).drew) (blk_new wq _ T) hb2
  exact ⟨_, va, rfl, Nat.le_refl _, blk_set hblk, ri_store ha hblk (no_slice _ _ _) va, ri_store ht hblk (no_slice _ _ _) va, hor.imp_left fun h => ownI_mono (ownI_set h _ _ (ownI_ne h hlt)) (Nat.le_of_lt hlt), (hA.trans (hb2.mono hA.size)).setCell (Nat.le_refl _) _⟩

theorem mid10_last {T : TypeId} {wq w2 : World} {q : List Int × List Int} {va t : Value} (ha : RI w2 va q.1) (ht : RI w2 t q.2) (hor : OwnI wq.drew.heap.size va q.1 w2 ∨ t = .slice none 0 0) (hb2 : Below wq.drew.heap.size wq.drew w2) :
    Mid10 T wq q (.pointer (some ⟨w2.heap.size, 0, none⟩)) t (w2.alloc (.cells #[va] T)) := by
  have hA : Below wq.heap.size wq w2 := (Below.refl _ _).drew.trans hb2
  exact ⟨w2.heap.size, va, rfl, hA.size, blk_new w2 _ T, ri_below ha (below_new w2 _), ri_below ht (below_new w2 _), hor.imp_left fun h => ownI_alloc h _, hA.alloc hA.size _⟩

theorem kept_or {B : Nat} {va vo t : Value} {q : List Int} {w w5 : World} (ha : RI w va q) (hor : (OwnI B va q w ∧ (va.ownBlock = none ∨ va.ownBlock ≠ vo.ownBlock)) ∨ t = .slice none 0 0) (hg : w.grownBy w5 vo.ownBlock) (hn : t = .slice none 0 0 → w5 = w) : RI w5 va q := by
  rcases hor with ⟨h1, h2⟩ | h
  · exact ri_of_own (World.ownsRow.kept h1 hg h2)
  · rw [hn h]
    exact ha

set_option maxHeartbeats 6400000 in
set_option maxRecDepth 100000 in
theorem rall10_any (v : Value) (l : List Int) (w : World) (hl : l.length ≤ 10000) (hv : RI w v l) : Calls Tryz.prog 12 #[v] w (Makes (Fol.allI l) w) := by
  obtain ⟨i0, hi, hz0, hz1, hz2⟩ := info_parts info_i
  obtain ⟨p, cap, rfl⟩ := ri_form hv
  replace hv := Lib.hid hv
  obtain ⟨A, hA⟩ : ∃ A, Fol.allI l = A := ⟨_, rfl⟩
  rw [hA]
  unfold Fol.allI at hA
  replace hA := Lib.hid hA
  go_enter Tryz.func12, Tryz.ntmps12
  go_wp2_with fail
  go_loopg [3, 5] l.length (fun g vo vi wr => ∃ (k : Nat) (vs : Value), k ≤ l.length ∧ vi = .int .i64 k ∧ g = l.length - k ∧ Blk wr w.heap.size #[vs] 24 ∧ RI wr vs (Fol.fedsI [] (l.take k)).1 ∧ OwnI (w.heap.size + 1) vo (Fol.fedsI [] (l.take k)).2 wr ∧ (Fol.fedsI [] (l.take k)).2.length ≤ 130 * k ∧ Below w.heap.size w wr)
  case atStart => exact ⟨0, .slice none 0 0, Nat.zero_le _, rfl, rfl, blk_new _ _ _, ri_nil _, ownI_nil _ _, by simp [Fol.fedsI], below_new _ _⟩
  case round =>
    obtain ⟨k, vs, hk, rfl, rfl, hbox, hvs, hown, hol, hbel⟩ := hrel
    have hml := Nor.kept_len (kept_feds (l.take k))
    obtain ⟨ps, cs, rfl⟩ := ri_form hvs
    by_cases hlt : k < l.length
    · have hlt' : (k : Int) < (l.length : Int) := by omega
      obtain ⟨b, off, rfl, hb, hcell⟩ := ri_at hv.out (by omega)
      have hc : wr.cell? ⟨b, off + k, none⟩ = some (.int .i64 l[k]) := (hbel.cell hb).trans (hcell k hlt)
      have hsn : l.take (k + 1) = l.take k ++ [l[k]] := by rw [List.take_succ_eq_append_getElem hlt]
      have hstep := feds_snoc (l.take k) l[k]
      rw [← hsn] at hstep
      obtain ⟨x, hx⟩ : ∃ x, l[k] = x := ⟨_, rfl⟩
      rw [hx] at hc hstep
      obtain ⟨m, hm⟩ : ∃ m, (Fol.fedsI [] (l.take k)).1 = m := ⟨_, rfl⟩
      obtain ⟨o, ho⟩ : ∃ o, (Fol.fedsI [] (l.take k)).2 = o := ⟨_, rfl⟩
      rw [hm] at hvs hstep hml hbox
      rw [ho] at hown hstep hol
      have hft := Fol.feed_told m x
      have hfeed := fun (v' : Value) (W : World) (hv' : RI W v' m) => rfeed10_any v' m x W (by omega) hv'
      obtain ⟨q, hq⟩ : ∃ q, Fol.feedI m x = q := ⟨_, rfl⟩
      rw [hq] at hstep hft hfeed
      obtain ⟨q1, q2⟩ := q
      have hq2 : q2.length ≤ 130 := hft
      have hkA : w.heap.size < wr.heap.size := blk_lt hbox
      have hkB : b < wr.heap.size := Nat.lt_of_lt_of_le hb hbel.size
      have H2 := Lib.hid (show wr.cell? ⟨w.heap.size, 0, none⟩ = some (.slice ps m.length cs) ∧ wr.cell? ⟨b, off + k, none⟩ = some (.int .i64 x) from ⟨blk_cell hbox 0 _ rfl, hc⟩)
      replace hfeed := Lib.hid hfeed
      replace hstep := Lib.hid hstep
      replace hown := Lib.hid hown
      replace hbel := Lib.hid hbel
      replace hvs := Lib.hid hvs
      replace hbox := Lib.hid hbox
      clear hcell hsn hx hm ho hq hft hc
      go_upto_region 6 with (fail)
      generalize hwq : wr = wq at *
      go_cut [6, 7] (fun u t wx => Mid10 24 wq (q1, q2) u t wx)
      case first =>
        go_region_held3 (fun w' => w'.cell? ⟨w.heap.size, 0, none⟩ = some (.slice ps m.length cs) ∧ w'.cell? ⟨b, off + k, none⟩ = some (.int .i64 x))
          (first | exact H2.out | exact held_drew (held_at (below_new wq _) H2.out) | exact held_at hb2 H2.out | exact held_drew (held_at (below_new w2 _) (held_at hb2 H2.out)) | exact held_at hb2 (held_drew (held_at (below_new wq _) H2.out)) | exact held_set (held_at hb2 (held_drew (held_at (below_new wq _) H2.out))) (by simp; omega) (by simp; omega))
          (first | (go_at_call 7; refine (hfeed.out _ _ (by first | exact hvs.out | exact ri_drew (ri_below hvs.out (below_new wq _)))).mono ?_; rintro e w2 ⟨va, vb, rfl, ha, ht, hor, hb2⟩; obtain ⟨pa, ca, rfl⟩ := ri_form ha; replace ha := Lib.hid ha; replace ht := Lib.hid ht; replace hor := Lib.hid hor; try (have h5 := blk_below (w := (wq.alloc (Obj.cells #[Value.slice none 0 0] 24)).drew) (blk_new wq #[Value.slice none 0 0] 24) hb2; have h5c := blk_cell h5 0 _ rfl; have h5f := blk_thaw h5 0; replace h5 := Lib.hid h5)))
        all_goals go_wp2_with fail
        all_goals go_meet
        · exact mid10_last ha.out ht.out hor.out hb2
        · exact mid10_first ha.out ht.out hor.out hb2
      case rest =>
        obtain ⟨bt, va, rfl, hbt, hbxt, ha, ht, hor, hbc⟩ := hcut
        obtain ⟨pa, ca, rfl⟩ := ri_form ha
        have hboxc := blk_below hbox.out hbc
        have kt := blk_cell hbxt 0 _ rfl
        have ks := blk_cell hboxc 0 _ rfl
        have fs := blk_thaw hboxc 0
        have hnew := Lib.hid (blk_set (u := .slice pa q1.length ca) hboxc)
        have ha' := Lib.hid (ri_store ha hboxc (no_slice _ _ _) (.slice pa q1.length ca))
        have hor' := Lib.hid (hor.imp_left fun h => And.intro (ownI_set h ⟨w.heap.size, 0, none⟩ (.slice pa q1.length ca) (ownI_ne h hkA)) (own_apart h hown.out))
        have ht' := Lib.hid (ri_src (ri_store ht hboxc (no_slice _ _ _) (.slice pa q1.length ca)))
        have ho' := Lib.hid (ownI_set (ownI_below hown.out hbc) ⟨w.heap.size, 0, none⟩ (.slice pa q1.length ca) (ownI_ne hown.out (by simp)))
        have hnot := Lib.hid (own_not hown.out (Nat.lt_succ_self w.heap.size))
        have h8a : o.length + q2.length ≤ maxLen := by unfold maxLen; omega
        have h8b : (o.length + q2.length) * 8 ≤ 140737488355328 := by omega
        replace h8a := Lib.hid h8a
        replace h8b := Lib.hid h8b
        have hbel' := Lib.hid ((hbel.out.trans (hbc.mono hbel.out.size)).setCell (p := ⟨w.heap.size, 0, none⟩) (Nat.le_refl _) (.slice pa q1.length ca))
        have hsz : w.heap.size + 1 ≤ (wc.setCell ⟨w.heap.size, 0, none⟩ (.slice pa q1.length ca)).heap.size := by have := hbc.size; simp; omega
        replace hsz := Lib.hid hsz
        replace hbxt := Lib.hid hbxt
        clear ha ht hor hboxc hbc H2 hfeed hbel hvs hbox hwq
        go_wp2_with (at_builtin; refine wpList_append_src2 rfl _ _ 22 rfl (w.heap.size + 1) 3 i0 (.int .i64 0) 8 Tryz.underlying22 hi hz0 hz1 hz2 rfl _ _ _ rfl ho'.out _ _ rfl ht'.out (oneCellI q2) (by rw [List.length_map]; exact h8a.out) (by rw [List.length_map]; exact h8b.out) hsz.out ?_; intro v5 w5 hown5 hgrow5 hnil5; have o5 := Lib.hid (ownI_of_row (l := o ++ q2) hown5 (by simp) (by simp)); have b5 := Lib.hid (below_row hbel'.out hgrow5 hbel'.out.size ho'.out (by omega)); have x5 := Lib.hid (blk_grown hnew.out hgrow5 hnot.out); have a5 := Lib.hid (kept_or ha'.out hor'.out hgrow5 fun h => (hnil5 h).2); clear hown5 hgrow5 hnil5)
        go_roundg (l.length - (k + 1))
        case measure => omega
        case rel => exact ⟨k + 1, .slice pa q1.length ca, by omega, by go_num, rfl, x5.out, by rw [hstep.out]; exact a5.out, by rw [hstep.out]; exact o5.out, by rw [hstep.out]; simp; omega, b5.out⟩
    · obtain rfl : k = l.length := by omega
      have hlt' : decide ((l.length : Int) < (l.length : Int)) = false := by simp
      rw [List.take_length] at hvs hown hol hml hbox
      have hA' := hA.out
      obtain ⟨m, hm⟩ : ∃ m, (Fol.fedsI [] l).1 = m := ⟨_, rfl⟩
      obtain ⟨o, ho⟩ : ∃ o, (Fol.fedsI [] l).2 = o := ⟨_, rfl⟩
      rw [hm] at hvs hml hbox hA'
      rw [ho] at hown hol hA'
      have hend := rend9_any _ m wr (by omega) hvs
      have hel : (Nor.endI m).length ≤ 31 := by
        unfold Nor.endI
        split
        · have := Can.compose_le m; omega
        · simp
      obtain ⟨E, hE⟩ : ∃ E, Nor.endI m = E := ⟨_, rfl⟩
      rw [hE] at hend hel hA'
      have b0 := blk_cell hbox 0 _ rfl
      replace hA' := Lib.hid hA'
      replace hend := Lib.hid hend
      replace hown := Lib.hid hown
      replace hbox := Lib.hid hbox
      replace hbel := Lib.hid hbel
      have h8a : o.length + E.length ≤ maxLen := by unfold maxLen; omega
      have h8b : (o.length + E.length) * 8 ≤ 140737488355328 := by omega
      replace h8a := Lib.hid h8a
      replace h8b := Lib.hid h8b
      clear hvs hm ho hE hA
      go_wp2_with fail
      refine hend.out.mono ?_
      rintro e w2 ⟨vE, rfl, hoE, hb2⟩
      have ho2 := Lib.hid (ownI_below hown.out hb2)
      have hs2 := Lib.hid (ri_src (ri_of_own hoE))
      have hzw := Lib.hid (show w.heap.size + 1 ≤ w2.heap.size from Nat.le_trans (blk_lt hbox.out) hb2.size)
      replace hb2 := Lib.hid (below_on hbel.out hb2)
      clear hoE
      go_wp2_with (at_builtin; refine wpList_append_src rfl _ _ 22 rfl (w.heap.size + 1) 3 i0 (.int .i64 0) 8 Tryz.underlying22 hi hz0 hz1 hz2 rfl _ _ _ rfl ho2.out _ _ rfl hs2.out (oneCellI E) (by rw [List.length_map]; exact h8a.out) (by rw [List.length_map]; exact h8b.out) hzw.out ?_; intro v5 w5 hown5 hgrow5; have o5 := Lib.hid (ownI_of_row (l := o ++ E) hown5 (by simp) (by simp)); have b5 := Lib.hid (below_row hb2.out hgrow5 hb2.out.size ho2.out (by omega)); clear hown5 hgrow5)
      go_ret
      exact ⟨_, rfl, by rw [← hA'.out]; exact ownI_mono o5.out (Nat.le_succ _), b5.out⟩

end Go.Proofs.YtfmnecknfmgggaaGreatDoor
