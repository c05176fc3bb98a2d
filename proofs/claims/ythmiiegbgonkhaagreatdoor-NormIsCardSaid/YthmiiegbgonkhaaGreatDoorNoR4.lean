/- Layer 9: the document's All. -/
import Derived.Test.YthmiiegbgonkhaaGreatDoorNoR3
import Derived.Deep.RegionHeld3
namespace Go.Proofs.YthmiiegbgonkhaaGreatDoor
set_option linter.unusedSimpArgs false
set_option linter.unusedVariables false
open Go.RowKit Go.Lib

set_option maxHeartbeats 6400000 in
set_option maxRecDepth 100000 in
theorem rall9_any (v : Value) (l : List Int) (w : World) (hl : l.length ≤ 10000) (hv : RI w v l) : Calls Tryz.prog 13 #[v] w (Makes (Nor.allI l) w) := by
  obtain ⟨i0, hi, hz0, hz1, hz2⟩ := info_parts info_i
  obtain ⟨p, cap, rfl⟩ := ri_form hv
  replace hv := Lib.hid hv
  obtain ⟨A, hA⟩ : ∃ A, Nor.allI l = A := ⟨_, rfl⟩
  rw [hA]
  unfold Nor.allI at hA
  replace hA := Lib.hid hA
  go_enter Tryz.func13, Tryz.ntmps13
  go_wp2_with fail
  go_loopg [3, 5] l.length (fun g vo vi wr => ∃ (k : Nat) (vs : Value), k ≤ l.length ∧ vi = .int .i64 k ∧ g = l.length - k ∧ Blk wr w.heap.size #[vs] 24 ∧ RI wr vs (Nor.feedsI [] (l.take k)).1 ∧ OwnI (w.heap.size + 1) vo (Nor.feedsI [] (l.take k)).2 wr ∧ (Nor.feedsI [] (l.take k)).2.length ≤ 130 * k ∧ Below w.heap.size w wr)
  case atStart => exact ⟨0, .slice none 0 0, Nat.zero_le _, rfl, rfl, blk_new _ _ _, ri_nil _, ownI_nil _ _, by simp [Nor.feedsI], below_new _ _⟩
  case round =>
    obtain ⟨k, vs, hk, rfl, rfl, hbox, hvs, hown, hol, hbel⟩ := hrel
    have hml := Nor.kept_len (Nor.kept_feeds (l.take k))
    obtain ⟨ps, cs, rfl⟩ := ri_form hvs
    by_cases hlt : k < l.length
    · have hlt' : (k : Int) < (l.length : Int) := by omega
      obtain ⟨b, off, rfl, hb, hcell⟩ := ri_at hv.out (by omega)
      have hc : wr.cell? ⟨b, off + k, none⟩ = some (.int .i64 l[k]) := (hbel.cell hb).trans (hcell k hlt)
      have hsn : l.take (k + 1) = l.take k ++ [l[k]] := by rw [List.take_succ_eq_append_getElem hlt]
      have hstep := feeds_snoc (l.take k) l[k]
      rw [← hsn] at hstep
      obtain ⟨x, hx⟩ : ∃ x, l[k] = x := ⟨_, rfl⟩
      rw [hx] at hc hstep
      obtain ⟨m, hm⟩ : ∃ m, (Nor.feedsI [] (l.take k)).1 = m := ⟨_, rfl⟩
      obtain ⟨o, ho⟩ : ∃ o, (Nor.feedsI [] (l.take k)).2 = o := ⟨_, rfl⟩
      rw [hm] at hvs hstep hml hbox
      rw [ho] at hown hstep hol
      have hft := Nor.feed_told m x
      have hfeed := fun (v' : Value) (W : World) (hv' : RI W v' m) => rfeed9_any v' m x W (by omega) hv'
      obtain ⟨q, hq⟩ : ∃ q, Nor.feedI m x = q := ⟨_, rfl⟩
      rw [hq] at hstep hft hfeed
      obtain ⟨q1, q2⟩ := q
      have hq2 : q2.length ≤ 130 := hft
      have hkA : w.heap.size < wr.heap.size := blk_lt hbox
      have hkB : b < wr.heap.size := Nat.lt_of_lt_of_le hb hbel.size
      have H2 := Lib.hid (show wr.cell? ⟨w.heap.size, 0, none⟩ = some (.slice ps m.length cs) ∧ wr.cell? ⟨b, off + k, none⟩ = some (.int .i64 x) from ⟨blk_cell hbox 0 _ rfl, hc⟩)
      replace hfeed := Lib.hid hfeed
      replace hstep := Lib.hid hstep
      replace hown := Lib.hid hown
      replace hbel := Lib.hid hbel
      replace hvs := Lib.hid hvs
      replace hbox := Lib.hid hbox
      clear hcell hsn hx hm ho hq hft hc
      go_upto_region 6 with (fail)
      generalize hwq : wr = wq at *
      go_cut [6, 7] (fun u t wx => Mid9 24 wq (q1, q2) u t wx)
      case first =>
        go_region_held3 (fun w' => w'.cell? ⟨w.heap.size, 0, none⟩ = some (.slice ps m.length cs) ∧ w'.cell? ⟨b, off + k, none⟩ = some (.int .i64 x))
          (first | exact H2.out | exact held_drew (held_at (below_new wq _) H2.out) | exact held_at hb2 H2.out | exact held_drew (held_at (below_new w2 _) (held_at hb2 H2.out)) | exact held_at hb2 (held_drew (held_at (below_new wq _) H2.out)) | exact held_set (held_at hb2 (held_drew (held_at (below_new wq _) H2.out))) (by simp; omega) (by simp; omega))
          (first | (go_at_call 6; refine (hfeed.out _ _ (by first | exact hvs.out | exact ri_drew (ri_below hvs.out (below_new wq _)))).mono ?_; rintro e w2 ⟨va, vb, rfl, ha, ht, hb2⟩; obtain ⟨pa, ca, rfl⟩ := ri_form (ri_of_own ha); replace ha := Lib.hid ha; replace ht := Lib.hid ht; try (have h5 := blk_below (w := (wq.alloc (Obj.cells #[Value.slice none 0 0] 24)).drew) (blk_new wq #[Value.slice none 0 0] 24) hb2; have h5c := blk_cell h5 0 _ rfl; have h5f := blk_thaw h5 0; replace h5 := Lib.hid h5)))
        all_goals go_wp2_with fail
        all_goals go_meet
        · exact mid9_last ha.out ht.out hb2
        · exact mid9_first ha.out ht.out hb2
      case rest =>
        obtain ⟨bt, va, rfl, hbt, hbxt, ha, ht, hbc⟩ := hcut
        obtain ⟨pa, ca, rfl⟩ := ri_form (ri_of_own ha)
        have hboxc := blk_below hbox.out hbc
        have kt := blk_cell hbxt 0 _ rfl
        have ks := blk_cell hboxc 0 _ rfl
        have fs := blk_thaw hboxc 0
        have hnew := Lib.hid (blk_set (u := .slice pa q1.length ca) hboxc)
        have ha' := Lib.hid (ownI_set ha ⟨w.heap.size, 0, none⟩ (.slice pa q1.length ca) (ownI_ne ha hkA))
        have ht' := Lib.hid (ri_src (ri_store ht hboxc (no_slice _ _ _) (.slice pa q1.length ca)))
        have ho' := Lib.hid (ownI_set (ownI_below hown.out hbc) ⟨w.heap.size, 0, none⟩ (.slice pa q1.length ca) (ownI_ne hown.out (by simp)))
        have hapart := own_apart ha hown.out
        have hnot := Lib.hid (own_not hown.out (Nat.lt_succ_self w.heap.size))
        have h8a : o.length + q2.length ≤ maxLen := by unfold maxLen; omega
        have h8b : (o.length + q2.length) * 8 ≤ 140737488355328 := by omega
        replace h8a := Lib.hid h8a
        replace h8b := Lib.hid h8b
        have hbel' := Lib.hid ((hbel.out.trans (hbc.mono hbel.out.size)).setCell (p := ⟨w.heap.size, 0, none⟩) (Nat.le_refl _) (.slice pa q1.length ca))
        have hsz : w.heap.size + 1 ≤ (wc.setCell ⟨w.heap.size, 0, none⟩ (.slice pa q1.length ca)).heap.size := by have := hbc.size; simp; omega
        replace hsz := Lib.hid hsz
        replace hapart := Lib.hid hapart
        replace hbxt := Lib.hid hbxt
        clear ha ht hboxc hbc H2 hfeed hbel hvs hbox hwq
        go_wp2_with (at_builtin; refine wpList_append_src rfl _ _ 22 rfl (w.heap.size + 1) 3 i0 (.int .i64 0) 8 Tryz.underlying22 hi hz0 hz1 hz2 rfl _ _ _ rfl ho'.out _ _ rfl ht'.out (oneCellI q2) (by rw [List.length_map]; exact h8a.out) (by rw [List.length_map]; exact h8b.out) hsz.out ?_; intro v5 w5 hown5 hgrow5; have o5 := Lib.hid (ownI_of_row (l := o ++ q2) hown5 (by simp) (by simp)); have b5 := Lib.hid (below_row hbel'.out hgrow5 hbel'.out.size ho'.out (by omega)); have x5 := Lib.hid (blk_grown hnew.out hgrow5 hnot.out); have a5 := Lib.hid (World.ownsRow.kept ha'.out hgrow5 hapart.out); clear hown5 hgrow5)
        go_roundg (l.length - (k + 1))
        case measure => omega
        case rel => exact ⟨k + 1, .slice pa q1.length ca, by omega, by go_num, rfl, x5.out, by rw [hstep.out]; exact ri_of_own a5.out, by rw [hstep.out]; exact o5.out, by rw [hstep.out]; simp; omega, b5.out⟩
    · obtain rfl : k = l.length := by omega
      have hlt' : decide ((l.length : Int) < (l.length : Int)) = false := by simp
      rw [List.take_length] at hvs hown hol hml hbox
      have hA' := hA.out
      obtain ⟨m, hm⟩ : ∃ m, (Nor.feedsI [] l).1 = m := ⟨_, rfl⟩
      obtain ⟨o, ho⟩ : ∃ o, (Nor.feedsI [] l).2 = o := ⟨_, rfl⟩
      rw [hm] at hvs hml hbox hA'
      rw [ho] at hown hol hA'
      have hend := rend9_any _ m wr (by omega) hvs
      have hel : (Nor.endI m).length ≤ 31 := by
        unfold Nor.endI
        split
        · have := Can.compose_le m; omega
        · simp
      obtain ⟨E, hE⟩ : ∃ E, Nor.endI m = E := ⟨_, rfl⟩
      rw [hE] at hend hel hA'
      have b0 := blk_cell hbox 0 _ rfl
      replace hA' := Lib.hid hA'
      replace hend := Lib.hid hend
      replace hown := Lib.hid hown
      replace hbox := Lib.hid hbox
      replace hbel := Lib.hid hbel
      have h8a : o.length + E.length ≤ maxLen := by unfold maxLen; omega
      have h8b : (o.length + E.length) * 8 ≤ 140737488355328 := by omega
      replace h8a := Lib.hid h8a
      replace h8b := Lib.hid h8b
      clear hvs hm ho hE hA
      go_wp2_with fail
      refine hend.out.mono ?_
      rintro e w2 ⟨vE, rfl, hoE, hb2⟩
      have ho2 := Lib.hid (ownI_below hown.out hb2)
      have hs2 := Lib.hid (ri_src (ri_of_own hoE))
      have hzw := Lib.hid (show w.heap.size + 1 ≤ w2.heap.size from Nat.le_trans (blk_lt hbox.out) hb2.size)
      replace hb2 := Lib.hid (below_on hbel.out hb2)
      clear hoE
      go_wp2_with (at_builtin; refine wpList_append_src rfl _ _ 22 rfl (w.heap.size + 1) 3 i0 (.int .i64 0) 8 Tryz.underlying22 hi hz0 hz1 hz2 rfl _ _ _ rfl ho2.out _ _ rfl hs2.out (oneCellI E) (by rw [List.length_map]; exact h8a.out) (by rw [List.length_map]; exact h8b.out) hzw.out ?_; intro v5 w5 hown5 hgrow5; have o5 := Lib.hid (ownI_of_row (l := o ++ E) hown5 (by simp) (by simp)); have b5 := Lib.hid (below_row hb2.out hgrow5 hb2.out.size ho2.out (by omega)); clear hown5 hgrow5)
      go_ret
      exact ⟨_, rfl, by rw [← hA'.out]; exact ownI_mono o5.out (Nat.le_succ _), b5.out⟩

end Go.Proofs.YthmiiegbgonkhaaGreatDoor
