/- Layer 9: the document's End and Feed. -/
import Derived.Test.YtfmnecknfmgggaaGreatDoorNoR2
namespace Go.Proofs.YtfmnecknfmgggaaGreatDoor
set_option linter.unusedSimpArgs false
set_option linter.unusedVariables false
open Go.RowKit Go.Lib

set_option maxHeartbeats 1600000 in
set_option maxRecDepth 100000 in
theorem rend9_any (v : Value) (l : List Int) (w : World) (hl : l.length ≤ 100000) (hv : RI w v l) : Calls Tryz.prog 26 #[.agg #[v]] w (Makes (Nor.endI l) w) := by
  obtain ⟨p, cap, rfl⟩ := ri_form hv
  have hbox := blk_new w #[.slice p l.length cap] 24
  have hb0 := below_new w (.cells #[.slice p l.length cap] 24)
  obtain ⟨W, hW⟩ : ∃ W, w.alloc (.cells #[.slice p l.length cap] 24) = W := ⟨_, rfl⟩
  have hvW := ri_below hv hb0
  rw [hW] at hbox hb0 hvW
  have hsane := rsane9_any (.slice p l.length cap) l W hl hvW
  unfold Nor.endI
  replace hbox := Lib.hid hbox
  replace hb0 := Lib.hid hb0
  replace hvW := Lib.hid hvW
  replace hW := Lib.hid hW
  clear hv
  cases hS : Nor.saneB l with
  | true =>
    rw [if_pos rfl]
    rw [hS] at hsane
    replace hsane := Lib.hid hsane
    obtain ⟨c, hc⟩ : ∃ c, Can.composeI l = c := ⟨_, rfl⟩
    rw [hc]
    replace hc := Lib.hid hc
    clear hS
    go_enter Tryz.func26, Tryz.ntmps26
    go_upto_region 1 with (fail)
    rw [hW.out]
    have b0 := blk_cell hbox.out 0 _ rfl
    go_wp2_with fail
    refine hsane.out.mono ?_
    rintro e w2 ⟨rfl, hb2⟩
    have c2 := blk_cell (blk_below hbox.out hb2) 0 _ rfl
    have hco := rcompose_any (.slice p l.length cap) l w2 (by omega) (ri_below hvW.out hb2)
    rw [hc.out] at hco
    replace hco := Lib.hid hco
    replace hb2 := Lib.hid (hb0.out.trans (hb2.mono hb0.out.size))
    go_wp2_with fail
    refine hco.out.mono ?_
    rintro e w3 ⟨v3, rfl, ho3, hb3⟩
    have ho3' := Lib.hid (ownI_mono ho3 hb2.out.size)
    replace hb3 := Lib.hid (below_on hb2.out hb3)
    clear ho3
    go_wp2_with fail
    go_ret
    exact ⟨_, rfl, ho3'.out, hb3.out⟩
  | false =>
    rw [if_neg (by simp)]
    rw [hS] at hsane
    replace hsane := Lib.hid hsane
    clear hS
    go_enter Tryz.func26, Tryz.ntmps26
    go_upto_region 1 with (fail)
    rw [hW.out]
    have b0 := blk_cell hbox.out 0 _ rfl
    go_wp2_with fail
    refine hsane.out.mono ?_
    rintro e w2 ⟨rfl, hb2⟩
    replace hb2 := Lib.hid (hb0.out.trans (hb2.mono hb0.out.size))
    go_wp2_with fail
    go_ret
    exact ⟨_, rfl, ownI_nil _ _, hb2.out⟩

/-- what Feed comes to: the state behind it, what is told -/
def FedRes (p : List Int × List Int) (w : World) (e : Ending) (w' : World) : Prop := ∃ va vb, e = .returned (.tuple #[.agg #[va], vb]) ∧ OwnI w.heap.size va p.1 w' ∧ RI w' vb p.2 ∧ Below w.heap.size w w'

set_option maxHeartbeats 6400000 in
set_option maxRecDepth 100000 in
/-- Feed, from behind its test of the state: what is kept so far is l -/
theorem rfeed9_any (v : Value) (l : List Int) (r : Int) (w : World) (hl : l.length ≤ 100000) (hv : RI w v l) : Calls Tryz.prog 21 #[.agg #[v], .int .i64 r] w (FedRes (Nor.feedI l r) w) := by
  obtain ⟨i0, hi, hz0, hz1, hz2⟩ := info_parts info_i
  obtain ⟨p, cap, rfl⟩ := ri_form hv
  have hbox0 := blk_new w #[.slice p l.length cap] 24
  have hbox := blk_alloc hbox0 (.cells #[.slice none 0 0] 24)
  have hres := blk_new (w.alloc (.cells #[.slice p l.length cap] 24)) #[.slice none 0 0] 24
  rw [show (w.alloc (.cells #[.slice p l.length cap] 24)).heap.size = w.heap.size + 1 by simp] at hres
  have hb0 : Below w.heap.size w ((w.alloc (.cells #[.slice p l.length cap] 24)).alloc (.cells #[.slice none 0 0] 24)) := (below_new w _).alloc (by simp) _
  obtain ⟨W, hW⟩ : ∃ W, (w.alloc (.cells #[.slice p l.length cap] 24)).alloc (.cells #[.slice none 0 0] 24) = W := ⟨_, rfl⟩
  have hvW := ri_below hv hb0
  rw [hW] at hbox hres hb0 hvW
  have hsane := rsane9_any (.slice p l.length cap) l W hl hvW
  have hfull := Lib.hid (rfull_free r)
  unfold Nor.feedI
  obtain ⟨D, hD⟩ : ∃ D, Dcp.fullI r = D := ⟨_, rfl⟩
  have hD4 := (Dcp.full_len r).2
  have hD1 := (Dcp.full_len r).1
  rw [hD] at hfull hD4 hD1 ⊢
  replace hbox := Lib.hid hbox
  replace hres := Lib.hid hres
  replace hb0 := Lib.hid hb0
  replace hvW := Lib.hid hvW
  replace hW := Lib.hid hW
  clear hv hbox0 hD
  cases hS : Nor.saneB l with
  | true =>
    rw [if_pos rfl]
    rw [hS] at hsane
    replace hsane := Lib.hid hsane
    obtain ⟨P, hP⟩ : ∃ P, Nor.runI l D = P := ⟨_, rfl⟩
    have hsum := Nor.run_sum l
    rw [hP]
    replace hP := Lib.hid hP
    replace hsum := Lib.hid hsum
    clear hS
    go_enter Tryz.func21, Tryz.ntmps21
    go_upto_region 1 with (fail)
    rw [hW.out]
    have b0 := blk_cell hbox.out 0 _ rfl
    go_wp2_with fail
    refine hsane.out.mono ?_
    rintro e w2 ⟨rfl, hb2⟩
    have c2 := blk_cell (blk_below hbox.out hb2) 0 _ rfl
    have hv2 := Lib.hid (ri_below hvW.out hb2)
    have hr2 := Lib.hid (blk_below hres.out hb2)
    replace hb2 := Lib.hid hb2
    clear b0
    go_wp2_with fail
    refine (hfull.out _).mono ?_
    rintro e w3 ⟨vD, rfl, hvD, hb3⟩
    obtain ⟨pD, cD, rfl⟩ := ri_form hvD
    have hv3 := Lib.hid (ri_below hv2.out hb3)
    have hr3 := Lib.hid (blk_below hr2.out hb3)
    replace hb3 := Lib.hid (hb2.out.trans (hb3.mono hb2.out.size))
    replace hvD := Lib.hid hvD
    clear c2
    go_wp2_with fail
    go_loopg [6, 7, 9] D.length (fun g vl vo vi wr => ∃ k : Nat, k ≤ D.length ∧ vi = .int .i64 k ∧ g = D.length - k ∧ RI wr vl (Nor.runI l (D.take k)).1 ∧ (k = 0 ∨ OwnI w3.heap.size vl (Nor.runI l (D.take k)).1 wr) ∧ OwnI w3.heap.size vo (Nor.runI l (D.take k)).2 wr ∧ Below w3.heap.size w3 wr)
    case atStart => exact ⟨0, Nat.zero_le _, rfl, rfl, hv3.out, .inl rfl, ownI_nil _ _, Below.refl _ _⟩
    case round =>
      obtain ⟨k, hk, rfl, rfl, hvl, hvo, hown, hbel⟩ := hrel
      by_cases hlt : k < D.length
      · have hlt' : (k : Int) < (D.length : Int) := by omega
        obtain ⟨b, off, rfl, hb, hcell⟩ := ri_at hvD.out (by omega)
        have hc : wr.cell? ⟨b, off + k, none⟩ = some (.int .i64 D[k]) := (hbel.cell hb).trans (hcell k hlt)
        have hsn : D.take (k + 1) = D.take k ++ [D[k]] := by rw [List.take_succ_eq_append_getElem hlt]
        have hstep := run_snoc l (D.take k) D[k]
        rw [← hsn] at hstep
        have hsz := hsum.out (D.take k)
        have hsz2 := hsum.out (D.take (k + 1))
        rw [hstep] at hsz2
        obtain ⟨d, hd⟩ : ∃ d, D[k] = d := ⟨_, rfl⟩
        rw [hd] at hc hstep hsz2
        obtain ⟨m, hm⟩ : ∃ m, (Nor.runI l (D.take k)).1 = m := ⟨_, rfl⟩
        obtain ⟨o, ho⟩ : ∃ o, (Nor.runI l (D.take k)).2 = o := ⟨_, rfl⟩
        rw [hm] at hvl hstep hsz hsz2
        rw [ho] at hown hstep hsz hsz2
        simp only [List.length_take, List.length_append] at hsz hsz2
        have hput := rput_any _ m d wr (by omega) hvl
        obtain ⟨q, hq⟩ : ∃ q, Nor.putI m d = q := ⟨_, rfl⟩
        rw [hq] at hput hstep hsz2
        obtain ⟨q1, q2⟩ := q
        have ho1 : o.length ≤ 200000 := by omega
        have hq1 : q2.length ≤ 200000 := by dsimp only at hsz2; omega
        replace hput := Lib.hid hput
        replace hstep := Lib.hid hstep
        replace hown := Lib.hid hown
        replace hbel := Lib.hid hbel
        clear hcell hsn hd hm ho hq hsz hsz2 hvl hvo
        go_wp2_with fail
        refine hput.out.mono ?_
        rintro e w5 ⟨va, vb, rfl, ha, hbb, hb5⟩
        have ho5 := Lib.hid (ownI_below hown.out hb5)
        have hs5 := Lib.hid (ri_src hbb)
        have hB5 := Lib.hid (hbel.out.trans (hb5.mono hbel.out.size))
        replace ha := Lib.hid ha
        clear hb5 hbb
        go_wp2_with (at_builtin; refine wpList_append_src rfl _ _ 22 rfl w3.heap.size 3 i0 (.int .i64 0) 8 Tryz.underlying22 hi hz0 hz1 hz2 rfl _ _ _ rfl ho5.out _ _ rfl hs5.out (oneCellI _) (by simp only [List.length_map, List.length_append, List.length_take, List.length_drop, List.length_cons, List.length_nil, List.length_singleton]; unfold maxLen; omega) (by simp only [List.length_map, List.length_append, List.length_take, List.length_drop, List.length_cons, List.length_nil, List.length_singleton]; omega) hB5.out.size ?_; intro v6 w6 ho6 hg6; have o6 := Lib.hid (ownI_of_row (l := o ++ q2) ho6 (by (try simp); try omega) (by (try simp); try omega)); have b6 := Lib.hid (below_row hB5.out hg6 hB5.out.size ho5.out (Nat.le_refl _)); have ha6 := Lib.hid (World.ownsRow.kept ha.out hg6 (own_apart ha.out hown.out)); clear ho6 hg6)
        go_roundg (D.length - (k + 1))
        case measure => omega
        case rel => exact ⟨k + 1, by omega, by go_num, rfl, by rw [hstep.out]; exact ri_of_own ha6.out, .inr (by rw [hstep.out]; exact ownI_mono ha6.out hbel.out.size), by rw [hstep.out]; exact o6.out, b6.out⟩
      · obtain rfl : k = D.length := by omega
        have hlt' : decide ((D.length : Int) < (D.length : Int)) = false := by simp
        rw [List.take_length, hP.out] at hvl hown hvo
        have hvo := hvo.resolve_left (by omega)
        obtain ⟨p6, c6, rfl⟩ := ri_form hvl
        have hbW := hb3.out.trans (hbel.mono hb3.out.size)
        have hrw := blk_below hres.out hbW
        have c4 := blk_cell hrw 0 _ rfl
        have f4 := blk_thaw hrw 0
        have hfin := Lib.hid (blk_set (u := .slice p6 P.1.length c6) hrw)
        have hwk : w.heap.size + 1 < w3.heap.size := Nat.lt_of_lt_of_le (blk_lt hres.out) hb3.out.size
        have hv9 := Lib.hid (ownI_mono (ownI_set hvo ⟨w.heap.size + 1, 0, none⟩ (.slice p6 P.1.length c6) (ownI_ne hvo hwk)) (Nat.le_trans (Nat.le_succ _) (Nat.le_of_lt hwk)))
        have ho9 := Lib.hid (ri_store (ri_of_own hown) hrw (no_slice _ _ _) (.slice p6 P.1.length c6))
        have hb9 := Lib.hid (hb0.out.trans (hbW.mono hb0.out.size))
        replace hrw := Lib.hid hrw
        clear hvl hvo hown hbW hbel
        go_wp2_with fail
        have c9 := blk_cell hfin.out 0 _ rfl
        refine bodyPost_ret (v := .tuple #[.agg #[.slice p6 P.1.length c6], _]) ?_ rfl ⟨_, _, rfl, hv9.out, ho9.out, hb9.out.setCell (by simp) _⟩
        simp [results, Tryz.results21, go_sem, c9]
  | false =>
    rw [if_neg (by simp)]
    rw [hS] at hsane
    replace hsane := Lib.hid hsane
    obtain ⟨P, hP⟩ : ∃ P, Nor.runI [] D = P := ⟨_, rfl⟩
    have hsum := Nor.run_sum []
    simp only [List.length_nil, Nat.zero_add] at hsum
    rw [hP]
    replace hP := Lib.hid hP
    replace hsum := Lib.hid hsum
    clear hS
    go_enter Tryz.func21, Tryz.ntmps21
    go_upto_region 1 with (fail)
    rw [hW.out]
    have b0 := blk_cell hbox.out 0 _ rfl
    go_wp2_with fail
    refine hsane.out.mono ?_
    rintro e w2 ⟨rfl, hb2⟩
    have hbx2 := blk_below hbox.out hb2
    have c2 := blk_cell hbx2 0 _ rfl
    have f2 := blk_thaw hbx2 0
    have hn2 := blk_set (u := .slice none 0 0) hbx2
    have d2 := blk_cell hn2 0 _ rfl
    have hr2 := Lib.hid (blk_other (j := w.heap.size) (u := .slice none 0 0) (blk_below hres.out hb2) (by omega))
    have hbm := hb0.out.trans (hb2.mono hb0.out.size)
    have hbs := Lib.hid (hbm.setCell (p := ⟨w.heap.size, 0, none⟩) (Nat.le_refl _) (.slice none 0 0))
    clear b0 hbx2 hn2 hbm hb2
    go_upto_region 5 with (fail)
    generalize hwq : w2.setCell ⟨w.heap.size, 0, none⟩ (.slice none 0 0) = wq at *
    clear hres hb0 hbox hvW hwq
    have hres := hr2
    have hb0 := hbs
    clear hr2 hbs
    go_wp2_with fail
    refine (hfull.out _).mono ?_
    rintro e w3 ⟨vD, rfl, hvD, hb3⟩
    obtain ⟨pD, cD, rfl⟩ := ri_form hvD
    have hv3 := Lib.hid (ri_nil w3)
    replace hb3 := Lib.hid hb3
    replace hvD := Lib.hid hvD
    clear d2
    go_wp2_with fail
    go_loopg [6, 7, 9] D.length (fun g vl vo vi wr => ∃ k : Nat, k ≤ D.length ∧ vi = .int .i64 k ∧ g = D.length - k ∧ RI wr vl (Nor.runI [] (D.take k)).1 ∧ (k = 0 ∨ OwnI w3.heap.size vl (Nor.runI [] (D.take k)).1 wr) ∧ OwnI w3.heap.size vo (Nor.runI [] (D.take k)).2 wr ∧ Below w3.heap.size w3 wr)
    case atStart => exact ⟨0, Nat.zero_le _, rfl, rfl, hv3.out, .inl rfl, ownI_nil _ _, Below.refl _ _⟩
    case round =>
      obtain ⟨k, hk, rfl, rfl, hvl, hvo, hown, hbel⟩ := hrel
      by_cases hlt : k < D.length
      · have hlt' : (k : Int) < (D.length : Int) := by omega
        obtain ⟨b, off, rfl, hb, hcell⟩ := ri_at hvD.out (by omega)
        have hc : wr.cell? ⟨b, off + k, none⟩ = some (.int .i64 D[k]) := (hbel.cell hb).trans (hcell k hlt)
        have hsn : D.take (k + 1) = D.take k ++ [D[k]] := by rw [List.take_succ_eq_append_getElem hlt]
        have hstep := run_snoc [] (D.take k) D[k]
        rw [← hsn] at hstep
        have hsz := hsum.out (D.take k)
        have hsz2 := hsum.out (D.take (k + 1))
        rw [hstep] at hsz2
        obtain ⟨d, hd⟩ : ∃ d, D[k] = d := ⟨_, rfl⟩
        rw [hd] at hc hstep hsz2
        obtain ⟨m, hm⟩ : ∃ m, (Nor.runI [] (D.take k)).1 = m := ⟨_, rfl⟩
        obtain ⟨o, ho⟩ : ∃ o, (Nor.runI [] (D.take k)).2 = o := ⟨_, rfl⟩
        rw [hm] at hvl hstep hsz hsz2
        rw [ho] at hown hstep hsz hsz2
        simp only [List.length_take, List.length_append] at hsz hsz2
        have hput := rput_any _ m d wr (by omega) hvl
        obtain ⟨q, hq⟩ : ∃ q, Nor.putI m d = q := ⟨_, rfl⟩
        rw [hq] at hput hstep hsz2
        obtain ⟨q1, q2⟩ := q
        have ho1 : o.length ≤ 200000 := by omega
        have hq1 : q2.length ≤ 200000 := by dsimp only at hsz2; omega
        replace hput := Lib.hid hput
        replace hstep := Lib.hid hstep
        replace hown := Lib.hid hown
        replace hbel := Lib.hid hbel
        clear hcell hsn hd hm ho hq hsz hsz2 hvl hvo
        go_wp2_with fail
        refine hput.out.mono ?_
        rintro e w5 ⟨va, vb, rfl, ha, hbb, hb5⟩
        have ho5 := Lib.hid (ownI_below hown.out hb5)
        have hs5 := Lib.hid (ri_src hbb)
        have hB5 := Lib.hid (hbel.out.trans (hb5.mono hbel.out.size))
        replace ha := Lib.hid ha
        clear hb5 hbb
        go_wp2_with (at_builtin; refine wpList_append_src rfl _ _ 22 rfl w3.heap.size 3 i0 (.int .i64 0) 8 Tryz.underlying22 hi hz0 hz1 hz2 rfl _ _ _ rfl ho5.out _ _ rfl hs5.out (oneCellI _) (by simp only [List.length_map, List.length_append, List.length_take, List.length_drop, List.length_cons, List.length_nil, List.length_singleton]; unfold maxLen; omega) (by simp only [List.length_map, List.length_append, List.length_take, List.length_drop, List.length_cons, List.length_nil, List.length_singleton]; omega) hB5.out.size ?_; intro v6 w6 ho6 hg6; have o6 := Lib.hid (ownI_of_row (l := o ++ q2) ho6 (by (try simp); try omega) (by (try simp); try omega)); have b6 := Lib.hid (below_row hB5.out hg6 hB5.out.size ho5.out (Nat.le_refl _)); have ha6 := Lib.hid (World.ownsRow.kept ha.out hg6 (own_apart ha.out hown.out)); clear ho6 hg6)
        go_roundg (D.length - (k + 1))
        case measure => omega
        case rel => exact ⟨k + 1, by omega, by go_num, rfl, by rw [hstep.out]; exact ri_of_own ha6.out, .inr (by rw [hstep.out]; exact ownI_mono ha6.out hbel.out.size), by rw [hstep.out]; exact o6.out, b6.out⟩
      · obtain rfl : k = D.length := by omega
        have hlt' : decide ((D.length : Int) < (D.length : Int)) = false := by simp
        rw [List.take_length, hP.out] at hvl hown hvo
        have hvo := hvo.resolve_left (by omega)
        obtain ⟨p6, c6, rfl⟩ := ri_form hvl
        have hbW := hb3.out.trans (hbel.mono hb3.out.size)
        have hrw := blk_below hres.out hbW
        have c4 := blk_cell hrw 0 _ rfl
        have f4 := blk_thaw hrw 0
        have hfin := Lib.hid (blk_set (u := .slice p6 P.1.length c6) hrw)
        have hwk : w.heap.size + 1 < w3.heap.size := Nat.lt_of_lt_of_le (blk_lt hres.out) hb3.out.size
        have hv9 := Lib.hid (ownI_mono (ownI_set hvo ⟨w.heap.size + 1, 0, none⟩ (.slice p6 P.1.length c6) (ownI_ne hvo hwk)) (Nat.le_trans (Nat.le_succ _) (Nat.le_of_lt hwk)))
        have ho9 := Lib.hid (ri_store (ri_of_own hown) hrw (no_slice _ _ _) (.slice p6 P.1.length c6))
        have hb9 := Lib.hid (hb0.out.trans (hbW.mono hb0.out.size))
        replace hrw := Lib.hid hrw
        clear hvl hvo hown hbW hbel
        go_wp2_with fail
        have c9 := blk_cell hfin.out 0 _ rfl
        refine bodyPost_ret (v := .tuple #[.agg #[.slice p6 P.1.length c6], _]) ?_ rfl ⟨_, _, rfl, hv9.out, ho9.out, hb9.out.setCell (by simp) _⟩
        simp [results, Tryz.results21, go_sem, c9]

end Go.Proofs.YtfmnecknfmgggaaGreatDoor
