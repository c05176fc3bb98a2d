/- Layer 9: the code's marks, Sane, copied, End. -/
import Derived.Test.YtfmnecknfmgggaaGreatDoorNoA1
import Derived.Test.YtfmnecknfmgggaaGreatDoorCnP
import Derived.Test.YtfmnecknfmgggaaGreatDoorBasP
import Derived.Test.YtfmnecknfmgggaaGreatDoorShelf
namespace Go.Proofs.YtfmnecknfmgggaaGreatDoor
set_option linter.unusedSimpArgs false
set_option linter.unusedVariables false
open Go.RowKit Go.Lib

namespace Nor
open Prp (mrkB cccI)
open Can
/-- what stands behind the first value, if that is no mark -/
def rowI : List Int → List Int
  | [] => []
  | x :: t => if mrkB x = true then x :: t else t

theorem row_mark {x : Int} (t : List Int) (hx : mrkB x = true) : rowI (x :: t) = x :: t := if_pos hx
theorem row_not {x : Int} (t : List Int) (hx : mrkB x = false) : rowI (x :: t) = t := if_neg (by rw [hx]; simp)

theorem row_len (l : List Int) : (rowI l).length ≤ l.length := by
  cases l with
  | nil => exact Nat.le_refl _
  | cons x t =>
    cases hx : mrkB x with
    | true => rw [row_mark t hx]; exact Nat.le_refl _
    | false => rw [row_not t hx]; simp

theorem run_le (bs : List Bool) (n : Nat) : runB bs n ≤ n + bs.length := by
  induction bs generalizing n with
  | nil => simp [runB]
  | cons b t ih =>
    simp only [runB, List.length_cons]
    have := ih (if b = true then n + 1 else 0)
    cases b <;> simp at this ⊢ <;> omega

theorem run_all (bs : List Bool) (n : Nat) (h : bs.all id = true) (h0 : bs ≠ []) : runB bs n = n + bs.length := by
  induction bs generalizing n with
  | nil => exact absurd rfl h0
  | cons b t ih =>
    simp only [List.all_cons, id, Bool.and_eq_true] at h
    obtain ⟨rfl, h⟩ := h
    simp only [runB, if_true, List.length_cons]
    by_cases ht : t = []
    · subst ht; simp [runB]
    · rw [ih (n + 1) h ht]; omega

theorem run_less (bs : List Bool) (n : Nat) (h : bs.all id = false) : runB bs n < n + bs.length := by
  induction bs generalizing n with
  | nil => simp at h
  | cons b t ih =>
    cases b with
    | false =>
      have := run_le t 0
      simp only [runB, Bool.false_eq_true, if_false, List.length_cons]
      omega
    | true =>
      simp only [List.all_cons, id, Bool.true_and] at h
      have h2 := ih (n + 1) h
      have h3 : t ≠ [] := fun e => by rw [e] at h; simp at h
      have h4 := List.length_pos_iff.2 h3
      simp only [runB, if_true, List.length_cons]
      omega

theorem marks_all (l : List Int) : decide (marksI l = l.length) = l.all mrkB := by
  unfold marksI
  have he : (l.map mrkB).all id = l.all mrkB := by simp [List.all_map]
  cases h : l.all mrkB with
  | true =>
    rw [h] at he
    by_cases h0 : l = []
    · subst h0; simp [runB]
    · have := run_all (l.map mrkB) 0 he (by simpa using h0)
      rw [this]; simp
  | false =>
    rw [h] at he
    have := run_less (l.map mrkB) 0 he
    rw [List.length_map] at this
    exact decide_eq_false (by omega)

theorem sorted_head {x : Int} (t : List Int) (hx : mrkB x = false) : sortedB (x :: t) = sortedB t := by
  unfold sortedB
  rw [List.reverse_cons]
  have : ∀ R : List Int, adjR (R ++ [x]) = adjR R := by
    intro R
    induction R with
    | nil => rfl
    | cons a R ih =>
      cases R with
      | nil => simp [adjR, hx]
      | cons b R => simp only [List.cons_append, adjR] at ih ⊢; rw [ih]
  exact this _

theorem cnt_all {l : List Int} (h : l.all mrkB = true) : cntI l = l.length := cnt_marks (fun m hm => List.all_eq_true.1 h m hm)

theorem sane_row (l : List Int) : saneB l = (decide ((rowI l).length ≤ 30) && decide (marksI (rowI l) = (rowI l).length) && sortedB (rowI l)) := by
  rw [marks_all]
  cases l with
  | nil => rfl
  | cons x t =>
    unfold saneB
    cases hx : mrkB x with
    | true =>
      have hr : rowI (x :: t) = x :: t := row_mark t hx
      rw [hr, List.tail_cons, List.all_cons, hx, Bool.true_and]
      cases ht : t.all mrkB with
      | false => simp
      | true =>
        have := cnt_all (l := x :: t) (by rw [List.all_cons, hx, ht]; rfl)
        rw [this]; simp
    | false =>
      have hr : rowI (x :: t) = t := row_not t hx
      rw [hr, List.tail_cons, sorted_head t hx]
      have hc : cntI (x :: t) = cntI t := by simp [cntI, hx]
      rw [hc]
      cases ht : t.all mrkB with
      | false => simp
      | true => rw [cnt_all ht]; simp

theorem kept_row {l : List Int} (h : Kept l) : (rowI l).length = cntI l := by
  have := kept_sane h
  rw [sane_row, Bool.and_eq_true, Bool.and_eq_true, marks_all] at this
  rw [← cnt_all this.1.2]
  cases l with
  | nil => rfl
  | cons x t =>
    cases hx : mrkB x with
    | true => rw [row_mark t hx]
    | false => rw [row_not t hx]; simp [cntI, hx]
end Nor

theorem ri_tail {w : World} {p : Option Addr} {n cap : Nat} {l : List Int} (h : RI w (.slice p n cap) l) (hl : 0 < l.length) : ∃ b off, p = some ⟨b, off, none⟩ ∧ RI w (.slice (some ⟨b, off + 1, none⟩) (n - 1) (cap - 1)) (l.drop 1) := by
  obtain ⟨b, off, rfl, _, _⟩ := ri_at h hl
  exact ⟨b, off, rfl, ri_from h 1 hl hl⟩

set_option maxHeartbeats 1600000 in
set_option maxRecDepth 100000 in
theorem nmarks_any (v : Value) (l : List Int) (w : World) (hl : l.length ≤ 100000) (hv : RI w v l) : Calls Tryz.prog 49 #[v] w (Told (Nor.rowI l) w) := by
  obtain ⟨p, cap, rfl⟩ := ri_form hv
  cases l with
  | nil =>
    replace hv := Lib.hid hv
    go_enter Tryz.func49, Tryz.ntmps49
    go_wp2_with fail
    go_ret
    exact ⟨_, rfl, hv.out, Below.refl _ _⟩
  | cons x t =>
    obtain ⟨b, off, rfl, hb, hcell⟩ := ri_at hv (by simp)
    have hc : w.cell? ⟨b, off + 0, none⟩ = some (.int .i64 x) := hcell 0 (by simp)
    rw [Nat.add_zero] at hc
    have hcap := (ri_cap hv).2.1
    obtain ⟨N, hN⟩ : ∃ N, (x :: t).length = N := ⟨_, rfl⟩
    have hdr := ri_from hv 1 (by simp) (by simp)
    simp only [List.drop_one, List.tail_cons] at hdr
    rw [hN] at hdr hv hcap hl ⊢
    have h0 : 0 < (N : Int) := by simp at hN; omega
    have h1 : 1 ≤ N := by omega
    have h1' : (1 : Int) ≤ (N : Int) := by omega
    cases hmb : Prp.mrkB x with
    | true =>
      have hr : Nor.rowI (x :: t) = x :: t := Nor.row_mark t hmb
      rw [hr]
      have hmx := Lib.hid (markOf7 x true hmb)
      replace hv := Lib.hid hv
      replace hN := Lib.hid hN
      clear hmb hr hdr hcell
      go_enter Tryz.func49, Tryz.ntmps49
      go_wp2_with fail
      refine (hmx.out _).mono ?_
      rintro e w2 ⟨rfl, hb2⟩
      have hv2 := Lib.hid (ri_below hv.out hb2)
      replace hb2 := Lib.hid hb2
      go_wp2_with fail
      go_ret
      exact ⟨_, rfl, hv2.out, hb2.out⟩
    | false =>
      have hr : Nor.rowI (x :: t) = t := Nor.row_not t hmb
      rw [hr]
      have hmx := Lib.hid (markOf7 x false hmb)
      have ht : t.length = N - 1 := by simp at hN; omega
      replace hv := Lib.hid hv
      replace hN := Lib.hid hN
      by_cases hc1 : cap = 1
      · subst hc1
        obtain rfl : N = 1 := by omega
        have ht0 : t = [] := List.eq_nil_of_length_eq_zero (by omega)
        replace ht := Lib.hid ht
        replace hdr := Lib.hid hdr
        clear hmb hr hcell
        go_enter Tryz.func49, Tryz.ntmps49
        go_wp2_with fail
        refine (hmx.out _).mono ?_
        rintro e w2 ⟨rfl, hb2⟩
        replace hb2 := Lib.hid hb2
        go_wp2_with fail
        go_ret
        subst ht0
        exact ⟨_, rfl, ri_none _ _ _ (fun h => by cases h), hb2.out⟩
      · have hc2 : ¬ cap = 1 := hc1
        have hc3 : (cap == 1) = false := beq_eq_false_iff_ne.2 hc1
        replace ht := Lib.hid ht
        replace hdr := Lib.hid hdr
        clear hmb hr hcell
        go_enter Tryz.func49, Tryz.ntmps49
        go_wp2_with fail
        refine (hmx.out _).mono ?_
        rintro e w2 ⟨rfl, hb2⟩
        have hd2 := Lib.hid (ri_below hdr.out hb2)
        replace hb2 := Lib.hid hb2
        go_wp2_with fail
        go_ret
        exact ⟨_, rfl, hd2.out, hb2.out⟩

set_option maxHeartbeats 3200000 in
set_option maxRecDepth 100000 in
theorem saneC9 : SaneC9 := by
  intro v l w hl hv
  obtain ⟨p, cap, rfl⟩ := ri_form hv
  have hbox := blk_new w #[.slice p l.length cap] 26
  have hb0 := below_new w (.cells #[.slice p l.length cap] 26)
  obtain ⟨W, hW⟩ : ∃ W, w.alloc (.cells #[.slice p l.length cap] 26) = W := ⟨_, rfl⟩
  have hvW := ri_below hv hb0
  rw [hW] at hbox hb0 hvW
  rw [Nor.sane_row]
  have hmk := nmarks_any (.slice p l.length cap) l W (by omega) hvW
  have hrl := Nor.row_len l
  obtain ⟨R, hR⟩ : ∃ R, Nor.rowI l = R := ⟨_, rfl⟩
  rw [hR] at hmk hrl ⊢
  have hma := fun V (W : World) h => marks_any7 V R W (by omega) h
  have hso := fun V (W : World) h => sorted_any7 V R W (by omega) h
  obtain ⟨M, hM⟩ : ∃ M, Can.marksI R = M := ⟨_, rfl⟩
  obtain ⟨S, hS⟩ : ∃ S, Can.sortedB R = S := ⟨_, rfl⟩
  rw [hM] at hma ⊢
  rw [hS] at hso ⊢
  replace hma := Lib.hid hma
  replace hso := Lib.hid hso
  replace hmk := Lib.hid hmk
  replace hW := Lib.hid hW
  replace hb0 := Lib.hid hb0
  replace hbox := Lib.hid hbox
  replace hvW := Lib.hid hvW
  have hRl : R.length ≤ 10000 := by omega
  clear hv hM hS hR hrl
  by_cases h30 : R.length ≤ 30
  · have h30' : (R.length : Int) ≤ 30 := by omega
    by_cases hMR : M = R.length
    · have hMR' : ((M : Int) == (R.length : Int)) = true := beq_nat_int hMR
      have hres : (decide (R.length ≤ 30) && decide (M = R.length) && S) = S := by rw [decide_eq_true h30, decide_eq_true hMR]; rfl
      rw [hres]
      replace hres := Lib.hid hres
      replace hMR := Lib.hid hMR
      go_enter Tryz.func29, Tryz.ntmps29
      go_upto_region 1 with (fail)
      rw [hW.out]
      have b0 := blk_cell hbox.out 0 _ rfl
      go_wp2_with fail
      refine hmk.out.mono ?_
      rintro e w2 ⟨v2, rfl, hv2, hb2⟩
      obtain ⟨p2, c2, rfl⟩ := ri_form hv2
      replace hv2 := Lib.hid hv2
      replace hb2 := Lib.hid (hb0.out.trans (hb2.mono hb0.out.size))
      clear b0
      go_wp2_with fail
      refine (hma.out _ _ hv2.out).mono ?_
      rintro e w3 ⟨rfl, hb3⟩
      have hv3 := Lib.hid (ri_below hv2.out hb3)
      replace hb3 := Lib.hid (below_on hb2.out hb3)
      go_wp2_with fail
      refine (hso.out _ _ hv3.out).mono ?_
      rintro e w4 ⟨rfl, hb4⟩
      replace hb4 := Lib.hid (below_on hb3.out hb4)
      go_wp2_with fail
      go_ret
      exact ⟨rfl, hb4.out⟩
    · have hMR' : ((M : Int) == (R.length : Int)) = false := bne_nat_int hMR
      have hres : (decide (R.length ≤ 30) && decide (M = R.length) && S) = false := by rw [decide_eq_false hMR]; simp
      rw [hres]
      replace hres := Lib.hid hres
      replace hMR := Lib.hid hMR
      go_enter Tryz.func29, Tryz.ntmps29
      go_upto_region 1 with (fail)
      rw [hW.out]
      have b0 := blk_cell hbox.out 0 _ rfl
      go_wp2_with fail
      refine hmk.out.mono ?_
      rintro e w2 ⟨v2, rfl, hv2, hb2⟩
      obtain ⟨p2, c2, rfl⟩ := ri_form hv2
      replace hv2 := Lib.hid hv2
      replace hb2 := Lib.hid (hb0.out.trans (hb2.mono hb0.out.size))
      clear b0
      go_wp2_with fail
      refine (hma.out _ _ hv2.out).mono ?_
      rintro e w3 ⟨rfl, hb3⟩
      replace hb3 := Lib.hid (below_on hb2.out hb3)
      go_wp2_with fail
      go_ret
      exact ⟨rfl, hb3.out⟩
  · have h30' : ¬ (R.length : Int) ≤ 30 := by omega
    have h30'' : decide ((R.length : Int) ≤ 30) = false := decide_eq_false h30'
    have hres : (decide (R.length ≤ 30) && decide (M = R.length) && S) = false := by rw [decide_eq_false h30]; simp
    rw [hres]
    replace hres := Lib.hid hres
    go_enter Tryz.func29, Tryz.ntmps29
    go_upto_region 1 with (fail)
    rw [hW.out]
    have b0 := blk_cell hbox.out 0 _ rfl
    go_wp2_with fail
    refine hmk.out.mono ?_
    rintro e w2 ⟨v2, rfl, hv2, hb2⟩
    obtain ⟨p2, c2, rfl⟩ := ri_form hv2
    replace hb2 := Lib.hid (hb0.out.trans (hb2.mono hb0.out.size))
    clear b0 hv2
    go_wp2_with fail
    go_ret
    exact ⟨rfl, hb2.out⟩

/-- slices.Clone of whole numbers -/
theorem clone_any (v : Value) (l : List Int) (w : World) (hl : l.length ≤ 100000) (hv : RI w v l) : Calls Tryz.prog 30 #[v] w (Makes l w) := by
  rcases hv with ⟨rfl, rfl⟩ | ⟨a, cap, rfl, hcap, hc⟩
  · refine (Tryz.slices_Clone_int_nil 0 0 w).mono ?_
    rintro e w' ⟨rfl, rfl⟩
    exact ⟨_, rfl, ownI_nil _ _, Below.refl _ _⟩
  · by_cases h0 : l.length = 0
    · obtain rfl : l = [] := List.eq_nil_of_length_eq_zero h0
      refine (Tryz.slices_Clone_int_zero a cap w).mono ?_
      rintro e w' ⟨v', rfl, h1, _, h2⟩
      exact ⟨v', rfl, h1, h2⟩
    · obtain ⟨b, off, rfl, hb, hcell⟩ := hc (by omega)
      refine (Tryz.slices_Clone_int b off l.length cap l w (Nat.le_refl _) (by omega) (fun j hj => by rw [hcell j hj]; simp [List.getD, hj])).mono ?_
      rintro e w' ⟨v', rfl, h1, _, h2⟩
      rw [List.take_length] at h1
      exact ⟨v', rfl, h1, h2⟩

/-- a state that may be -/
def wellI (l : List Int) : List Int := if Nor.saneB l = true then l else []
theorem well_kept (l : List Int) : Nor.Kept (wellI l) := by
  unfold wellI
  split
  · rename_i h; exact Nor.sane_kept h
  · exact Nor.kept_nil
theorem well_end (l : List Int) : Nor.endI l = Can.composeI (wellI l) := by
  unfold Nor.endI wellI
  split <;> rfl

set_option maxHeartbeats 3200000 in
set_option maxRecDepth 100000 in
theorem copied_any (v : Value) (l : List Int) (w : World) (hl : l.length ≤ 10000) (hv : RI w v l) : Calls Tryz.prog 33 #[.agg #[v]] w fun e w' => ∃ va, e = .returned (.agg #[va]) ∧ OwnI w.heap.size va (wellI l) w' ∧ Below w.heap.size w w' := by
  obtain ⟨p, cap, rfl⟩ := ri_form hv
  have hbox0 := blk_new w #[.slice p l.length cap] 26
  have hbox := blk_alloc hbox0 (.cells #[.slice none 0 0] 26)
  have hres := blk_new (w.alloc (.cells #[.slice p l.length cap] 26)) #[.slice none 0 0] 26
  rw [show (w.alloc (.cells #[.slice p l.length cap] 26)).heap.size = w.heap.size + 1 by simp] at hres
  have hb0 : Below w.heap.size w ((w.alloc (.cells #[.slice p l.length cap] 26)).alloc (.cells #[.slice none 0 0] 26)) := (below_new w _).alloc (by simp) _
  obtain ⟨W, hW⟩ : ∃ W, (w.alloc (.cells #[.slice p l.length cap] 26)).alloc (.cells #[.slice none 0 0] 26) = W := ⟨_, rfl⟩
  have hvW := ri_below hv hb0
  rw [hW] at hbox hres hb0 hvW
  have hsane := saneC9 (.slice p l.length cap) l W hl hvW
  unfold wellI
  replace hbox := Lib.hid hbox
  replace hres := Lib.hid hres
  replace hb0 := Lib.hid hb0
  replace hvW := Lib.hid hvW
  replace hW := Lib.hid hW
  clear hv hbox0
  cases hS : Nor.saneB l with
  | true =>
    rw [if_pos rfl]
    rw [hS] at hsane
    replace hsane := Lib.hid hsane
    clear hS
    go_enter Tryz.func33, Tryz.ntmps33
    go_upto_region 1 with (fail)
    rw [hW.out]
    have b0 := blk_cell hbox.out 0 _ rfl
    go_wp2_with fail
    refine hsane.out.mono ?_
    rintro e w2 ⟨rfl, hb2⟩
    have hbx2 := blk_below hbox.out hb2
    have c2 := blk_cell hbx2 0 _ rfl
    have hcl := Lib.hid (clone_any (.slice p l.length cap) l w2 (by omega) (ri_below hvW.out hb2))
    have hr2 := Lib.hid (blk_below hres.out hb2)
    replace hb2 := Lib.hid (hb0.out.trans (hb2.mono hb0.out.size))
    clear b0 hbx2
    go_wp2_with fail
    refine hcl.out.mono ?_
    rintro e w3 ⟨v3, rfl, ho3, hb3⟩
    have hr3 := blk_below hr2.out hb3
    have c3 := blk_cell hr3 0 _ rfl
    have f3 := blk_thaw hr3 0
    obtain ⟨p3, c3', rfl⟩ := ri_form (ri_of_own ho3)
    have hlt : w.heap.size + 1 < w2.heap.size := blk_lt hr2.out
    have hn3 := Lib.hid (blk_set (u := .slice p3 l.length c3') hr3)
    have ho4 := Lib.hid (ownI_mono (ownI_set ho3 ⟨w.heap.size + 1, 0, none⟩ (.slice p3 l.length c3') (ownI_ne ho3 hlt)) (show w.heap.size ≤ w2.heap.size by omega))
    have hb4 := Lib.hid ((below_on hb2.out hb3).setCell (p := ⟨w.heap.size + 1, 0, none⟩) (Nat.le_succ _) (.slice p3 l.length c3'))
    replace hr3 := Lib.hid hr3
    clear c2 hb3 ho3
    go_wp2_with fail
    have d4 := blk_cell hn3.out 0 _ rfl
    refine bodyPost_ret (v := .agg #[.slice p3 l.length c3']) ?_ rfl ⟨_, rfl, ho4.out, hb4.out⟩
    simp [results, Tryz.results33, go_sem, d4]
  | false =>
    rw [if_neg (by simp)]
    rw [hS] at hsane
    replace hsane := Lib.hid hsane
    clear hS
    go_enter Tryz.func33, Tryz.ntmps33
    go_upto_region 1 with (fail)
    rw [hW.out]
    have b0 := blk_cell hbox.out 0 _ rfl
    go_wp2_with fail
    refine hsane.out.mono ?_
    rintro e w2 ⟨rfl, hb2⟩
    have hr2 := blk_below hres.out hb2
    have c2 := blk_cell hr2 0 _ rfl
    have f2 := blk_thaw hr2 0
    have hn2 := Lib.hid (blk_set (u := .slice none 0 0) hr2)
    have hb4 := Lib.hid ((hb0.out.trans (hb2.mono hb0.out.size)).setCell (p := ⟨w.heap.size + 1, 0, none⟩) (Nat.le_succ _) (.slice none 0 0))
    replace hr2 := Lib.hid hr2
    clear b0 hb2
    go_wp2_with fail
    have d4 := blk_cell hn2.out 0 _ rfl
    refine bodyPost_ret (v := .agg #[.slice none 0 0]) ?_ rfl ⟨_, rfl, ownI_nil _ _, hb4.out⟩
    simp [results, Tryz.results33, go_sem, d4]

end Go.Proofs.YtfmnecknfmgggaaGreatDoor
