/- Layer 10: the document's Feed. -/
import Derived.Test.YtiidjkhkcckmkaaGreatDoorPrRQ
import Derived.Test.YtiidjkhkcckmkaaGreatDoorNoRP
import Derived.Deep.RegionHeld3
namespace Go.Proofs.YtiidjkhkcckmkaaGreatDoor
set_option linter.unusedSimpArgs false
set_option linter.unusedVariables false
open Go.RowKit Go.Lib
def Fed10o (v : Value) (p : List Int × List Int) (w : World) (e : Ending) (w' : World) : Prop :=
  ∃ va vb, e = .returned (.tuple #[.agg #[va], vb]) ∧ RI w' va p.1 ∧ OwnI w.heap.size vb p.2 w' ∧ (OwnI w.heap.size va p.1 w' ∨ (vb = .slice none 0 0 ∧ (va = v ∨ va = .slice none 0 0))) ∧ Below w.heap.size w w'
theorem feeds_more (l a : List Int) (r : Int) : Nor.feedsI l (a ++ [r]) = ((Nor.feedI (Nor.feedsI l a).1 r).1, (Nor.feedsI l a).2 ++ (Nor.feedI (Nor.feedsI l a).1 r).2) := by
  rw [Nor.feeds_app]
  simp [Nor.feedsI]
def Rel10 (T : TypeId) (w w1 : World) (VS : Value) (LL D : List Int) (k : Nat) (vo : Value) (wr : World) : Prop :=
  ∃ vs, Blk wr w.heap.size #[vs] T ∧ Blk wr (w.heap.size + 1) #[.slice none 0 0] T ∧ RI wr vs (Nor.feedsI LL (D.take k)).1 ∧ OwnI w1.heap.size vo (Nor.feedsI LL (D.take k)).2 wr
    ∧ ((k = 0 ∧ vo = .slice none 0 0 ∧ vs = VS) ∨ OwnI w1.heap.size vs (Nor.feedsI LL (D.take k)).1 wr) ∧ (∀ c : Addr, c.block ≠ w.heap.size → c.block < w1.heap.size → wr.cell? c = w1.cell? c) ∧ Below w.heap.size w wr ∧ w1.heap.size ≤ wr.heap.size
theorem lens_of {l : List Int} (h : Nor.Kept l) (a : List Int) : (Nor.feedsI l a).1.length ≤ 31 ∧ (Nor.feedsI l a).2.length ≤ 31 + 8 * a.length := by
  rw [Nor.feeds_run h]
  have h1 := Nor.kept_len (Nor.kept_run h (Nfk.madeI a))
  have h2 := Nor.run_sum l (Nfk.madeI a)
  have h3 := Nor.kept_len h
  have h4 := Nor.made_len a
  omega
set_option maxHeartbeats 6400000 in
set_option maxRecDepth 100000 in
theorem rfeed10_own (v : Value) (l : List Int) (r : Int) (w : World) (hl : l.length ≤ 1000) (hv : RI w v l) : Calls Tryz.prog 36 #[.agg #[v], .int .i64 r] w (Fed10o v (Fol.feedI l r) w) := by
  obtain ⟨i0, hi, hz0, hz1, hz2⟩ := info_parts info_i
  obtain ⟨p, cap, rfl⟩ := ri_form hv
  have hbox0 := blk_new w #[.slice p l.length cap] 26
  have hbox := blk_alloc hbox0 (.cells #[.slice none 0 0] 26)
  have hres := blk_new (w.alloc (.cells #[.slice p l.length cap] 26)) #[.slice none 0 0] 26
  rw [show (w.alloc (.cells #[.slice p l.length cap] 26)).heap.size = w.heap.size + 1 by simp] at hres
  have hb0 : Below w.heap.size w ((w.alloc (.cells #[.slice p l.length cap] 26)).alloc (.cells #[.slice none 0 0] 26)) := (below_new w _).alloc (by simp) _
  obtain ⟨W, hW⟩ : ∃ W, (w.alloc (.cells #[.slice p l.length cap] 26)).alloc (.cells #[.slice none 0 0] 26) = W := ⟨_, rfl⟩
  have hvW := ri_below hv hb0
  rw [hW] at hbox hres hb0 hvW
  have hsane := rsane9_any (.slice p l.length cap) l W (by omega) hvW
  unfold Fol.feedI
  obtain ⟨D, hD⟩ : ∃ D, Fol.leftI [r] = D := ⟨_, rfl⟩
  have hD3 := Fol.left_len r
  rw [hD] at hD3 ⊢
  replace hbox := Lib.hid hbox
  replace hres := Lib.hid hres
  replace hb0 := Lib.hid hb0
  replace hvW := Lib.hid hvW
  replace hW := Lib.hid hW
  replace hD := Lib.hid hD
  clear hv hbox0
  cases hS : Nor.saneB l with
  | true =>
    rw [if_pos rfl]
    rw [hS] at hsane
    replace hsane := Lib.hid hsane
    obtain ⟨P, hP⟩ : ∃ P, Nor.feedsI l D = P := ⟨_, rfl⟩
    rw [hP]
    replace hP := Lib.hid hP
    go_enter Tryz.func36, Tryz.ntmps36
    go_upto_region 1 with (fail)
    rw [hW.out]
    have b0 := blk_cell hbox.out 0 _ rfl
    go_upto_region 3 with (go_at_call 52; refine hsane.out.mono ?_; rintro e w2 ⟨rfl, hb2⟩)
    have hbx2 := Lib.hid (blk_below hbox.out hb2)
    have hv2 := Lib.hid (ri_below hvW.out hb2)
    have hrs2 := Lib.hid (blk_below hres.out hb2)
    replace hb2 := Lib.hid (hb0.out.trans (hb2.mono hb0.out.size))
    have hleft := rleft_any _ [r] (w2.alloc (.cells #[.int .i64 r] 3)) (by simp) (ri_of_own (ownI_lit w.heap.size w2 [r] #[.int .i64 r] w2.heap.size 1 rfl hb2.out.size rfl rfl (by unfold maxLen; omega)))
    rw [hD.out] at hleft
    replace hleft := Lib.hid hleft
    clear b0
    go_wp2_with fail
    refine hleft.out.mono ?_
    rintro e w3 ⟨vD, rfl, hoD, hb3⟩
    have hbA := below_new w2 (.cells #[.int .i64 r] 3)
    have hbB := below_on hbA (hb3.mono (Nat.le_refl _))
    have hwD := Lib.hid (show w.heap.size < (w2.alloc (.cells #[.int .i64 r] 3)).heap.size by have := blk_lt hbx2.out; simp; omega)
    obtain ⟨pD, cD, rfl⟩ := ri_form (ri_of_own hoD)
    have hbx3 := Lib.hid (blk_below hbx2.out hbB)
    have hrs3 := Lib.hid (blk_below hrs2.out hbB)
    have hv3 := Lib.hid (ri_below hv2.out hbB)
    replace hb3 := Lib.hid (hb2.out.trans (hbB.mono hb2.out.size))
    replace hoD := Lib.hid hoD
    have hlens := Lib.hid (lens_of (Nor.sane_kept hS))
    clear hbA hbB hS
    go_wp2_with fail
    
    go_loopg [7, 8] D.length (fun g vo vi wr => ∃ k : Nat, k ≤ D.length ∧ vi = .int .i64 k ∧ g = D.length - k ∧ Rel10 26 w w3 (.slice p l.length cap) l D k vo wr)
    case atStart => exact ⟨0, Nat.zero_le _, rfl, rfl, .slice p l.length cap, hbx3.out, hrs3.out, hv3.out, ownI_nil _ _, .inl ⟨rfl, rfl, rfl⟩, fun _ _ _ => rfl, hb3.out, Nat.le_refl _⟩
    case round =>
      obtain ⟨k, hk, rfl, rfl, vs, hbox, hres, hvs, hown, hvo, hkeep, hbel, hsz3⟩ := hrel
      obtain ⟨ps, cs, rfl⟩ := ri_form hvs
      by_cases hlt : k < D.length
      · have hlt' : (k : Int) < (D.length : Int) := by omega
        obtain ⟨b, cpD, he, hBb, hbs, hcellD⟩ := ownI_open hoD.out (by omega)
        simp at he
        obtain ⟨rfl, rfl⟩ := he
        have hbne : b ≠ w.heap.size := by have := hwD.out; omega
        have hc : wr.cell? ⟨b, k, none⟩ = some (.int .i64 D[k]) := (hkeep ⟨b, k, none⟩ hbne hbs).trans (hcellD k hlt)
        have hsn : D.take (k + 1) = D.take k ++ [D[k]] := by rw [List.take_succ_eq_append_getElem hlt]
        have hstep := feeds_more l (D.take k) D[k]
        rw [← hsn] at hstep
        obtain ⟨hml, hol⟩ := hlens.out (D.take k)
        have hol2 := (hlens.out (D.take (k + 1))).2
        rw [hstep] at hol2
        obtain ⟨x, hx⟩ : ∃ x, D[k] = x := ⟨_, rfl⟩
        rw [hx] at hc hstep hol2
        obtain ⟨m, hm⟩ : ∃ m, (Nor.feedsI l (D.take k)).1 = m := ⟨_, rfl⟩
        obtain ⟨o, ho⟩ : ∃ o, (Nor.feedsI l (D.take k)).2 = o := ⟨_, rfl⟩
        rw [hm] at hvs hstep hml hbox hol2
        rw [ho] at hown hstep hol hol2
        simp only [List.length_take, List.length_append] at hol hol2
        have hfeed := fun (v' : Value) (W : World) (hv' : RI W v' m) => rfeed9_any v' m x W (by omega) hv'
        obtain ⟨q, hq⟩ : ∃ q, Nor.feedI m x = q := ⟨_, rfl⟩
        rw [hq] at hstep hfeed hol2
        obtain ⟨q1, q2⟩ := q
        have hq2 : q2.length ≤ 1000 := by dsimp only at hol2; omega
        have hoo : o.length ≤ 1000 := by omega
        have hkA : w.heap.size < wr.heap.size := blk_lt hbox
        have hkR : w.heap.size + 1 < wr.heap.size := blk_lt hres
        have hkB : b < wr.heap.size := Nat.lt_of_lt_of_le hbs hsz3
        have hk3 : w.heap.size + 1 < w3.heap.size := blk_lt hrs3.out
        have H2 := Lib.hid (show wr.cell? ⟨w.heap.size, 0, none⟩ = some (.slice ps m.length cs) ∧ wr.cell? ⟨b, k, none⟩ = some (.int .i64 x) from ⟨blk_cell hbox 0 _ rfl, hc⟩)
        replace hfeed := Lib.hid hfeed
        replace hstep := Lib.hid hstep
        replace hown := Lib.hid hown
        replace hbel := Lib.hid hbel
        replace hvs := Lib.hid hvs
        replace hbox := Lib.hid hbox
        replace hres := Lib.hid hres
        replace hkeep := Lib.hid hkeep
        replace hsz3 := Lib.hid hsz3
        clear hcellD hsn hx hm ho hq hc hvo hol hol2
        go_upto_region 8 with (fail)
        generalize hwq : wr = wq at *
        go_cut [9, 10] (fun u t wx => Mid9 26 wq (q1, q2) u t wx)
        case first =>
          go_region_held3 (fun w' => w'.cell? ⟨w.heap.size, 0, none⟩ = some (.slice ps m.length cs) ∧ w'.cell? ⟨b, k, none⟩ = some (.int .i64 x))
            (first | exact H2.out | exact held_drew (held_at (below_new wq _) H2.out) | exact held_at hb2 H2.out | exact held_drew (held_at (below_new w2 _) (held_at hb2 H2.out)) | exact held_at hb2 (held_drew (held_at (below_new wq _) H2.out)) | exact held_set (held_at hb2 (held_drew (held_at (below_new wq _) H2.out))) (by simp; omega) (by simp; omega))
            (first | (go_at_call 35; refine (hfeed.out _ _ (by first | exact hvs.out | exact ri_drew (ri_below hvs.out (below_new wq _)))).mono ?_; rintro e w2 ⟨va, vb, rfl, ha, ht, hb2⟩; obtain ⟨pa, ca, rfl⟩ := ri_form (ri_of_own ha); replace ha := Lib.hid ha; replace ht := Lib.hid ht; try (have h5 := blk_below (w := (wq.alloc (Obj.cells #[Value.slice none 0 0] 26)).drew) (blk_new wq #[Value.slice none 0 0] 26) hb2; have h5c := blk_cell h5 0 _ rfl; have h5f := blk_thaw h5 0; replace h5 := Lib.hid h5)))
          all_goals go_wp2_with fail
          all_goals go_meet
          · exact mid9_last ha.out ht.out hb2
          · exact mid9_first ha.out ht.out hb2
        case rest =>
          obtain ⟨bt, va, rfl, hbt, hbxt, ha, ht, hbc⟩ := hcut
          obtain ⟨pa, ca, rfl⟩ := ri_form (ri_of_own ha)
          have hboxc := blk_below hbox.out hbc
          have kt := blk_cell hbxt 0 _ rfl
          have ks := blk_cell hboxc 0 _ rfl
          have fs := blk_thaw hboxc 0
          have hnew := Lib.hid (blk_set (u := .slice pa q1.length ca) hboxc)
          have hrnew := Lib.hid (blk_other (j := w.heap.size) (u := .slice pa q1.length ca) (blk_below hres.out hbc) (by omega))
          have ha' := Lib.hid (ownI_set ha ⟨w.heap.size, 0, none⟩ (.slice pa q1.length ca) (ownI_ne ha hkA))
          have ht' := Lib.hid (ri_src (ri_store ht hboxc (no_slice _ _ _) (.slice pa q1.length ca)))
          have ho' := Lib.hid (ownI_set (ownI_below hown.out hbc) ⟨w.heap.size, 0, none⟩ (.slice pa q1.length ca) (ownI_ne hown.out (show w.heap.size < w3.heap.size by omega)))
          have hapart := own_apart ha hown.out
          have hnot := Lib.hid fun c (hc : c < w3.heap.size) => own_not hown.out hc
          have h8a : o.length + q2.length ≤ maxLen := by unfold maxLen; omega
          have h8b : (o.length + q2.length) * 8 ≤ 140737488355328 := by omega
          have hbel' := Lib.hid ((hbel.out.trans (hbc.mono hbel.out.size)).setCell (p := ⟨w.heap.size, 0, none⟩) (Nat.le_refl _) (.slice pa q1.length ca))
          have hsz : w3.heap.size ≤ (wc.setCell ⟨w.heap.size, 0, none⟩ (.slice pa q1.length ca)).heap.size := by have := hbc.size; have := hsz3.out; simp; omega
          have hkc : ∀ c : Addr, c.block ≠ w.heap.size → c.block < w3.heap.size → (wc.setCell ⟨w.heap.size, 0, none⟩ (.slice pa q1.length ca)).cell? c = w3.cell? c := by
            intro c h1 h2
            rw [World.cell?_setCell_other _ _ _ _ (fun e => h1 (by rw [← e])), hbc.cell (Nat.lt_of_lt_of_le h2 hsz3.out)]
            exact hkeep.out c h1 h2
          replace h8a := Lib.hid h8a
          replace h8b := Lib.hid h8b
          replace hsz := Lib.hid hsz
          replace hapart := Lib.hid hapart
          replace hbxt := Lib.hid hbxt
          replace hkc := Lib.hid hkc
          have hqsz := Lib.hid hsz3.out
          have hnw := Lib.hid (hnot.out w.heap.size (by omega))
          have hnw1 := Lib.hid (hnot.out (w.heap.size + 1) hk3)
          clear ha ht hboxc hbc H2 hfeed hbel hvs hbox hwq
          go_wp2_with (at_builtin; refine wpList_append_src rfl _ _ 24 rfl w3.heap.size 3 i0 (.int .i64 0) 8 Tryz.underlying24 hi hz0 hz1 hz2 rfl _ _ _ rfl ho'.out _ _ rfl ht'.out (oneCellI q2) (by rw [List.length_map]; exact h8a.out) (by rw [List.length_map]; exact h8b.out) hsz.out ?_; intro v5 w5 hown5 hgrow5; have o5 := Lib.hid (ownI_of_row (l := o ++ q2) hown5 (by simp) (by simp)); have b5 := Lib.hid (below_row hbel'.out hgrow5 hbel'.out.size ho'.out (by omega)); have x5 := Lib.hid (blk_grown hnew.out hgrow5 hnw.out); have y5 := Lib.hid (blk_grown hrnew.out hgrow5 hnw1.out); have a5 := Lib.hid (World.ownsRow.kept ha'.out hgrow5 hapart.out); have z5 := Lib.hid (Nat.le_trans hsz.out hgrow5.size); have c5 := Lib.hid (fun (c : Addr) (h1 : c.block ≠ w.heap.size) (h2 : c.block < w3.heap.size) => (World.cell?_of_block (w := wc.setCell ⟨w.heap.size, 0, none⟩ (.slice pa q1.length ca)) (hgrow5.block c.block (Nat.lt_of_lt_of_le h2 hsz.out) (hnot.out c.block h2))).trans (hkc.out c h1 h2)); clear hown5 hgrow5)
          go_roundg (D.length - (k + 1))
          case measure => omega
          case rel => exact ⟨k + 1, by omega, by go_num, rfl, .slice pa q1.length ca, x5.out, y5.out, by rw [hstep.out]; exact ri_of_own a5.out, by rw [hstep.out]; exact o5.out, .inr (by rw [hstep.out]; exact ownI_mono a5.out hqsz.out), c5.out, b5.out, z5.out⟩
      · obtain rfl : k = D.length := by omega
        have hlt' : decide ((D.length : Int) < (D.length : Int)) = false := by simp
        rw [List.take_length] at hvs hown hvo hbox
        rw [hP.out] at hvs hown hvo hbox
        have b0 := blk_cell hbox 0 _ rfl
        have c4 := blk_cell hres 0 _ rfl
        have f4 := blk_thaw hres 0
        have hfin := Lib.hid (blk_set (u := .slice ps P.1.length cs) hres)
        have hv9 := Lib.hid (ri_store hvs hres (no_slice _ _ _) (.slice ps P.1.length cs))
        have hk3 : w.heap.size + 1 < w3.heap.size := blk_lt hrs3.out
        have ho9 := Lib.hid (ownI_mono (ownI_set hown ⟨w.heap.size + 1, 0, none⟩ (.slice ps P.1.length cs) (ownI_ne hown hk3)) (show w.heap.size ≤ w3.heap.size by omega))
        have hb9 := Lib.hid (hbel.setCell (p := ⟨w.heap.size + 1, 0, none⟩) (by simp) (.slice ps P.1.length cs))
        have hor := Lib.hid (show (_ = _ ∧ _ = _) ∨ OwnI w.heap.size (.slice ps P.1.length cs) P.1 (wr.setCell ⟨w.heap.size + 1, 0, none⟩ (.slice ps P.1.length cs)) from hvo.imp (fun h => h.2) (fun h => ownI_mono (ownI_set h ⟨w.heap.size + 1, 0, none⟩ (.slice ps P.1.length cs) (ownI_ne h hk3)) (by omega)))
        replace hres := Lib.hid hres
        clear hvs hown hbel hvo hkeep hbox
        go_wp2_with fail
        have c9 := blk_cell hfin.out 0 _ rfl
        refine bodyPost_ret (v := .tuple #[.agg #[.slice ps P.1.length cs], _]) ?_ rfl ⟨_, _, rfl, hv9.out, ho9.out, hor.out.symm.imp id (fun h => ⟨h.1, .inl h.2⟩), hb9.out⟩
        simp [results, Tryz.results36, go_sem, c9]
  | false =>
    rw [if_neg (by simp)]
    rw [hS] at hsane
    replace hsane := Lib.hid hsane
    obtain ⟨P, hP⟩ : ∃ P, Nor.feedsI [] D = P := ⟨_, rfl⟩
    rw [hP]
    replace hP := Lib.hid hP
    clear hS
    go_enter Tryz.func36, Tryz.ntmps36
    go_upto_region 1 with (fail)
    rw [hW.out]
    have b0 := blk_cell hbox.out 0 _ rfl
    go_upto_region 2 with (go_at_call 52; refine hsane.out.mono ?_; rintro e wz ⟨rfl, hbz⟩)
    have hbxz := blk_below hbox.out hbz
    have cz := blk_cell hbxz 0 _ rfl
    have fz := blk_thaw hbxz 0
    have hbx2 := Lib.hid (blk_set (u := .slice none 0 0) hbxz)
    have hrs2 := Lib.hid (blk_other (j := w.heap.size) (u := .slice none 0 0) (blk_below hres.out hbz) (by omega))
    have hbm := hb0.out.trans (hbz.mono hb0.out.size)
    have hb2 := Lib.hid (hbm.setCell (p := ⟨w.heap.size, 0, none⟩) (Nat.le_refl _) (.slice none 0 0))
    clear b0 hbxz hbm hbz
    go_upto_region 3 with (fail)
    generalize hwq : wz.setCell ⟨w.heap.size, 0, none⟩ (.slice none 0 0) = w2 at *
    have hleft := rleft_any _ [r] (w2.alloc (.cells #[.int .i64 r] 3)) (by simp) (ri_of_own (ownI_lit w.heap.size w2 [r] #[.int .i64 r] w2.heap.size 1 rfl hb2.out.size rfl rfl (by unfold maxLen; omega)))
    rw [hD.out] at hleft
    replace hleft := Lib.hid hleft
    replace hwq := Lib.hid hwq
    clear cz fz
    go_wp2_with fail
    refine hleft.out.mono ?_
    rintro e w3 ⟨vD, rfl, hoD, hb3⟩
    have hbA := below_new w2 (.cells #[.int .i64 r] 3)
    have hbB := below_on hbA (hb3.mono (Nat.le_refl _))
    have hwD := Lib.hid (show w.heap.size < (w2.alloc (.cells #[.int .i64 r] 3)).heap.size by have := blk_lt hbx2.out; simp; omega)
    obtain ⟨pD, cD, rfl⟩ := ri_form (ri_of_own hoD)
    have hbx3 := Lib.hid (blk_below hbx2.out hbB)
    have hrs3 := Lib.hid (blk_below hrs2.out hbB)
    have hv3 := Lib.hid (ri_nil w3)
    replace hb3 := Lib.hid (hb2.out.trans (hbB.mono hb2.out.size))
    replace hoD := Lib.hid hoD
    have hlens := Lib.hid (lens_of Nor.kept_nil)
    clear hbA hbB
    go_wp2_with fail
    
    go_loopg [7, 8] D.length (fun g vo vi wr => ∃ k : Nat, k ≤ D.length ∧ vi = .int .i64 k ∧ g = D.length - k ∧ Rel10 26 w w3 (.slice none 0 0) [] D k vo wr)
    case atStart => exact ⟨0, Nat.zero_le _, rfl, rfl, .slice none 0 0, hbx3.out, hrs3.out, hv3.out, ownI_nil _ _, .inl ⟨rfl, rfl, rfl⟩, fun _ _ _ => rfl, hb3.out, Nat.le_refl _⟩
    case round =>
      obtain ⟨k, hk, rfl, rfl, vs, hbox, hres, hvs, hown, hvo, hkeep, hbel, hsz3⟩ := hrel
      obtain ⟨ps, cs, rfl⟩ := ri_form hvs
      by_cases hlt : k < D.length
      · have hlt' : (k : Int) < (D.length : Int) := by omega
        obtain ⟨b, cpD, he, hBb, hbs, hcellD⟩ := ownI_open hoD.out (by omega)
        simp at he
        obtain ⟨rfl, rfl⟩ := he
        have hbne : b ≠ w.heap.size := by have := hwD.out; omega
        have hc : wr.cell? ⟨b, k, none⟩ = some (.int .i64 D[k]) := (hkeep ⟨b, k, none⟩ hbne hbs).trans (hcellD k hlt)
        have hsn : D.take (k + 1) = D.take k ++ [D[k]] := by rw [List.take_succ_eq_append_getElem hlt]
        have hstep := feeds_more [] (D.take k) D[k]
        rw [← hsn] at hstep
        obtain ⟨hml, hol⟩ := hlens.out (D.take k)
        have hol2 := (hlens.out (D.take (k + 1))).2
        rw [hstep] at hol2
        obtain ⟨x, hx⟩ : ∃ x, D[k] = x := ⟨_, rfl⟩
        rw [hx] at hc hstep hol2
        obtain ⟨m, hm⟩ : ∃ m, (Nor.feedsI [] (D.take k)).1 = m := ⟨_, rfl⟩
        obtain ⟨o, ho⟩ : ∃ o, (Nor.feedsI [] (D.take k)).2 = o := ⟨_, rfl⟩
        rw [hm] at hvs hstep hml hbox hol2
        rw [ho] at hown hstep hol hol2
        simp only [List.length_take, List.length_append] at hol hol2
        have hfeed := fun (v' : Value) (W : World) (hv' : RI W v' m) => rfeed9_any v' m x W (by omega) hv'
        obtain ⟨q, hq⟩ : ∃ q, Nor.feedI m x = q := ⟨_, rfl⟩
        rw [hq] at hstep hfeed hol2
        obtain ⟨q1, q2⟩ := q
        have hq2 : q2.length ≤ 1000 := by dsimp only at hol2; omega
        have hoo : o.length ≤ 1000 := by omega
        have hkA : w.heap.size < wr.heap.size := blk_lt hbox
        have hkR : w.heap.size + 1 < wr.heap.size := blk_lt hres
        have hkB : b < wr.heap.size := Nat.lt_of_lt_of_le hbs hsz3
        have hk3 : w.heap.size + 1 < w3.heap.size := blk_lt hrs3.out
        have H2 := Lib.hid (show wr.cell? ⟨w.heap.size, 0, none⟩ = some (.slice ps m.length cs) ∧ wr.cell? ⟨b, k, none⟩ = some (.int .i64 x) from ⟨blk_cell hbox 0 _ rfl, hc⟩)
        replace hfeed := Lib.hid hfeed
        replace hstep := Lib.hid hstep
        replace hown := Lib.hid hown
        replace hbel := Lib.hid hbel
        replace hvs := Lib.hid hvs
        replace hbox := Lib.hid hbox
        replace hres := Lib.hid hres
        replace hkeep := Lib.hid hkeep
        replace hsz3 := Lib.hid hsz3
        clear hcellD hsn hx hm ho hq hc hvo hol hol2
        go_upto_region 8 with (fail)
        generalize hwq : wr = wq at *
        go_cut [9, 10] (fun u t wx => Mid9 26 wq (q1, q2) u t wx)
        case first =>
          go_region_held3 (fun w' => w'.cell? ⟨w.heap.size, 0, none⟩ = some (.slice ps m.length cs) ∧ w'.cell? ⟨b, k, none⟩ = some (.int .i64 x))
            (first | exact H2.out | exact held_drew (held_at (below_new wq _) H2.out) | exact held_at hb2 H2.out | exact held_drew (held_at (below_new w2 _) (held_at hb2 H2.out)) | exact held_at hb2 (held_drew (held_at (below_new wq _) H2.out)) | exact held_set (held_at hb2 (held_drew (held_at (below_new wq _) H2.out))) (by simp; omega) (by simp; omega))
            (first | (go_at_call 35; refine (hfeed.out _ _ (by first | exact hvs.out | exact ri_drew (ri_below hvs.out (below_new wq _)))).mono ?_; rintro e w2 ⟨va, vb, rfl, ha, ht, hb2⟩; obtain ⟨pa, ca, rfl⟩ := ri_form (ri_of_own ha); replace ha := Lib.hid ha; replace ht := Lib.hid ht; try (have h5 := blk_below (w := (wq.alloc (Obj.cells #[Value.slice none 0 0] 26)).drew) (blk_new wq #[Value.slice none 0 0] 26) hb2; have h5c := blk_cell h5 0 _ rfl; have h5f := blk_thaw h5 0; replace h5 := Lib.hid h5)))
          all_goals go_wp2_with fail
          all_goals go_meet
          · exact mid9_last ha.out ht.out hb2
          · exact mid9_first ha.out ht.out hb2
        case rest =>
          obtain ⟨bt, va, rfl, hbt, hbxt, ha, ht, hbc⟩ := hcut
          obtain ⟨pa, ca, rfl⟩ := ri_form (ri_of_own ha)
          have hboxc := blk_below hbox.out hbc
          have kt := blk_cell hbxt 0 _ rfl
          have ks := blk_cell hboxc 0 _ rfl
          have fs := blk_thaw hboxc 0
          have hnew := Lib.hid (blk_set (u := .slice pa q1.length ca) hboxc)
          have hrnew := Lib.hid (blk_other (j := w.heap.size) (u := .slice pa q1.length ca) (blk_below hres.out hbc) (by omega))
          have ha' := Lib.hid (ownI_set ha ⟨w.heap.size, 0, none⟩ (.slice pa q1.length ca) (ownI_ne ha hkA))
          have ht' := Lib.hid (ri_src (ri_store ht hboxc (no_slice _ _ _) (.slice pa q1.length ca)))
          have ho' := Lib.hid (ownI_set (ownI_below hown.out hbc) ⟨w.heap.size, 0, none⟩ (.slice pa q1.length ca) (ownI_ne hown.out (show w.heap.size < w3.heap.size by omega)))
          have hapart := own_apart ha hown.out
          have hnot := Lib.hid fun c (hc : c < w3.heap.size) => own_not hown.out hc
          have h8a : o.length + q2.length ≤ maxLen := by unfold maxLen; omega
          have h8b : (o.length + q2.length) * 8 ≤ 140737488355328 := by omega
          have hbel' := Lib.hid ((hbel.out.trans (hbc.mono hbel.out.size)).setCell (p := ⟨w.heap.size, 0, none⟩) (Nat.le_refl _) (.slice pa q1.length ca))
          have hsz : w3.heap.size ≤ (wc.setCell ⟨w.heap.size, 0, none⟩ (.slice pa q1.length ca)).heap.size := by have := hbc.size; have := hsz3.out; simp; omega
          have hkc : ∀ c : Addr, c.block ≠ w.heap.size → c.block < w3.heap.size → (wc.setCell ⟨w.heap.size, 0, none⟩ (.slice pa q1.length ca)).cell? c = w3.cell? c := by
            intro c h1 h2
            rw [World.cell?_setCell_other _ _ _ _ (fun e => h1 (by rw [← e])), hbc.cell (Nat.lt_of_lt_of_le h2 hsz3.out)]
            exact hkeep.out c h1 h2
          replace h8a := Lib.hid h8a
          replace h8b := Lib.hid h8b
          replace hsz := Lib.hid hsz
          replace hapart := Lib.hid hapart
          replace hbxt := Lib.hid hbxt
          replace hkc := Lib.hid hkc
          have hqsz := Lib.hid hsz3.out
          have hnw := Lib.hid (hnot.out w.heap.size (by omega))
          have hnw1 := Lib.hid (hnot.out (w.heap.size + 1) hk3)
          clear ha ht hboxc hbc H2 hfeed hbel hvs hbox hwq
          go_wp2_with (at_builtin; refine wpList_append_src rfl _ _ 24 rfl w3.heap.size 3 i0 (.int .i64 0) 8 Tryz.underlying24 hi hz0 hz1 hz2 rfl _ _ _ rfl ho'.out _ _ rfl ht'.out (oneCellI q2) (by rw [List.length_map]; exact h8a.out) (by rw [List.length_map]; exact h8b.out) hsz.out ?_; intro v5 w5 hown5 hgrow5; have o5 := Lib.hid (ownI_of_row (l := o ++ q2) hown5 (by simp) (by simp)); have b5 := Lib.hid (below_row hbel'.out hgrow5 hbel'.out.size ho'.out (by omega)); have x5 := Lib.hid (blk_grown hnew.out hgrow5 hnw.out); have y5 := Lib.hid (blk_grown hrnew.out hgrow5 hnw1.out); have a5 := Lib.hid (World.ownsRow.kept ha'.out hgrow5 hapart.out); have z5 := Lib.hid (Nat.le_trans hsz.out hgrow5.size); have c5 := Lib.hid (fun (c : Addr) (h1 : c.block ≠ w.heap.size) (h2 : c.block < w3.heap.size) => (World.cell?_of_block (w := wc.setCell ⟨w.heap.size, 0, none⟩ (.slice pa q1.length ca)) (hgrow5.block c.block (Nat.lt_of_lt_of_le h2 hsz.out) (hnot.out c.block h2))).trans (hkc.out c h1 h2)); clear hown5 hgrow5)
          go_roundg (D.length - (k + 1))
          case measure => omega
          case rel => exact ⟨k + 1, by omega, by go_num, rfl, .slice pa q1.length ca, x5.out, y5.out, by rw [hstep.out]; exact ri_of_own a5.out, by rw [hstep.out]; exact o5.out, .inr (by rw [hstep.out]; exact ownI_mono a5.out hqsz.out), c5.out, b5.out, z5.out⟩
      · obtain rfl : k = D.length := by omega
        have hlt' : decide ((D.length : Int) < (D.length : Int)) = false := by simp
        rw [List.take_length] at hvs hown hvo hbox
        rw [hP.out] at hvs hown hvo hbox
        have b0 := blk_cell hbox 0 _ rfl
        have c4 := blk_cell hres 0 _ rfl
        have f4 := blk_thaw hres 0
        have hfin := Lib.hid (blk_set (u := .slice ps P.1.length cs) hres)
        have hv9 := Lib.hid (ri_store hvs hres (no_slice _ _ _) (.slice ps P.1.length cs))
        have hk3 : w.heap.size + 1 < w3.heap.size := blk_lt hrs3.out
        have ho9 := Lib.hid (ownI_mono (ownI_set hown ⟨w.heap.size + 1, 0, none⟩ (.slice ps P.1.length cs) (ownI_ne hown hk3)) (show w.heap.size ≤ w3.heap.size by omega))
        have hb9 := Lib.hid (hbel.setCell (p := ⟨w.heap.size + 1, 0, none⟩) (by simp) (.slice ps P.1.length cs))
        have hor := Lib.hid (show (_ = _ ∧ _ = _) ∨ OwnI w.heap.size (.slice ps P.1.length cs) P.1 (wr.setCell ⟨w.heap.size + 1, 0, none⟩ (.slice ps P.1.length cs)) from hvo.imp (fun h => h.2) (fun h => ownI_mono (ownI_set h ⟨w.heap.size + 1, 0, none⟩ (.slice ps P.1.length cs) (ownI_ne h hk3)) (by omega)))
        replace hres := Lib.hid hres
        clear hvs hown hbel hvo hkeep hbox
        go_wp2_with fail
        have c9 := blk_cell hfin.out 0 _ rfl
        refine bodyPost_ret (v := .tuple #[.agg #[.slice ps P.1.length cs], _]) ?_ rfl ⟨_, _, rfl, hv9.out, ho9.out, hor.out.symm.imp id (fun h => ⟨h.1, .inr h.2⟩), hb9.out⟩
        simp [results, Tryz.results36, go_sem, c9]
end Go.Proofs.YtiidjkhkcckmkaaGreatDoor
