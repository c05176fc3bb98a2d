/- Layer 9: the walk of NormRows. -/
import Derived.Test.YthmiiegbgonkhaaDoorNoW0
import Derived.Test.YthmiiegbgonkhaaDoorNoB
import Derived.Test.YthmiiegbgonkhaaDoorBasP
import Derived.Test.YthmiiegbgonkhaaDoorK7
import Derived.Deep.LoopGhost
import Derived.Deep.DeepCutAuto
namespace Go.Proofs.YthmiiegbgonkhaaDoor
set_option linter.unusedSimpArgs false
set_option linter.unusedVariables false
open Go.RowKit Go.Lib

theorem own_not_ge {B k : Nat} {v : Value} {l : List Int} {w : World} (h : OwnI B v l w) (hk : w.heap.size ≤ k) : some k ≠ v.ownBlock := fun e => by
  have := (World.ownsRow.lt h k e.symm).2
  omega

set_option maxHeartbeats 12800000 in
set_option maxRecDepth 100000 in
theorem normRows_walk (hS : SaneC9) (hF : FeedC9) (hE : EndC9) (hA : AllC9) (v : Value) (l : List Int) (c : Int) (w : World) (hv : RI w v l ∧ WfI l) (_ : -9223372036854775808 ≤ c ∧ c ≤ 9223372036854775807) :
    Calls Tryd.prog 6 #[v, .int .i64 c] w fun e w' => e = .returned (.bool true) ∧ Below w.heap.size w w' := by
  obtain ⟨hri, _⟩ := hv
  obtain ⟨i0, hi, hz0, hz1, hz2⟩ := info_parts info_i
  obtain ⟨p, cap, rfl⟩ := ri_form hri
  have hawake := Lib.hid (awake9 hS hF hE)
  replace hri := Lib.hid hri
  by_cases hl : l.length ≤ 100
  · have hl' : decide (100 < l.length) = false := decide_eq_false (by omega)
    have hl2 : ¬ (100 : Int) < (l.length : Int) := by omega
    obtain ⟨y, hy, hy0, hy1⟩ : ∃ y, wrap64 (97 + (bits .and .i64 c 65535).tmod 26) = y ∧ 97 ≤ y ∧ y ≤ 122 := by
      refine ⟨_, rfl, ?_⟩
      rw [and65535, Int.tmod_eq_emod_of_nonneg (by omega)]
      unfold wrap64
      omega
    have hxx := Lib.hid (show 97 ≤ y ∧ y ≤ 122 from ⟨hy0, hy1⟩)
    clear hy0 hy1
    go_enter Tryd.func6, Tryd.ntmps6
    go_wp2_with fail
    refine (hawake.out _).mono ?_
    rintro e w1 ⟨rfl, q1⟩
    have b1 := Lib.hid q1
    clear q1
    have hv1 := Lib.hid (ri_below hri.out b1.out)
    go_wp2_with fail
    rw [hy]
    replace hy := Lib.hid hy
    go_loopg [8, 9] l.length (fun g vo vi wr => ∃ (k : Nat) (vs : Value), k ≤ l.length ∧ vi = .int .i64 k ∧ g = l.length - k ∧ Blk wr w1.heap.size #[vs] 29 ∧ OwnI (w1.heap.size + 1) vs (Nor.feedsI [] (l.take k)).1 wr ∧ OwnI (w1.heap.size + 1) vo (Nor.feedsI [] (l.take k)).2 wr ∧ (vs.ownBlock = none ∨ vs.ownBlock ≠ vo.ownBlock) ∧ (Nor.feedsI [] (l.take k)).2.length ≤ 130 * k ∧ Below w1.heap.size w1 wr)
    case atStart => exact ⟨0, .slice none 0 0, Nat.zero_le _, rfl, rfl, blk_new _ _ _, ownI_nil _ _, ownI_nil _ _, .inl rfl, by simp [Nor.feedsI], below_new _ _⟩
    case round =>
      obtain ⟨k, vs, hk, rfl, rfl, hbox, hvso, hown, hap, hol, hbel⟩ := hrel
      have hml := Nor.kept_len (Nor.kept_feeds (l.take k))
      obtain ⟨ps, cs, rfl⟩ := ri_form (ri_of_own hvso)
      by_cases hlt : k < l.length
      · have hlt' : (k : Int) < (l.length : Int) := by omega
        obtain ⟨b, off, rfl, hb, hcell⟩ := ri_at hv1.out (by omega)
        have hc : wr.cell? ⟨b, off + k, none⟩ = some (.int .i64 l[k]) := (hbel.cell hb).trans (hcell k hlt)
        have hsn : l.take (k + 1) = l.take k ++ [l[k]] := by rw [List.take_succ_eq_append_getElem hlt]
        have hstep := feeds_snoc (l.take k) l[k]
        rw [← hsn] at hstep
        obtain ⟨x, hx⟩ : ∃ x, l[k] = x := ⟨_, rfl⟩
        rw [hx] at hc hstep
        obtain ⟨m, hm⟩ : ∃ m, (Nor.feedsI [] (l.take k)).1 = m := ⟨_, rfl⟩
        obtain ⟨o, ho⟩ : ∃ o, (Nor.feedsI [] (l.take k)).2 = o := ⟨_, rfl⟩
        rw [hm] at hvso hstep hml hbox
        rw [ho] at hown hstep hol
        have hvs := ri_of_own hvso
        have hft := Nor.feed_told m x
        have hfeed := fun (v' : Value) (W : World) (hv' : RI W v' m) => feed_of9 hF (v := v') (l := m) (r := x) (w := W) rfl (by omega) hv'
        obtain ⟨q, hq⟩ : ∃ q, Nor.feedI m x = q := ⟨_, rfl⟩
        rw [hq] at hstep hft hfeed
        obtain ⟨q1, q2⟩ := q
        have hq2 : q2.length ≤ 130 := hft
        have hkA : w1.heap.size < wr.heap.size := blk_lt hbox
        have hkB : b < wr.heap.size := Nat.lt_of_lt_of_le hb hbel.size
        have H2 := Lib.hid (show wr.cell? ⟨w1.heap.size, 0, none⟩ = some (.slice ps m.length cs) ∧ wr.cell? ⟨b, off + k, none⟩ = some (.int .i64 x) from ⟨blk_cell hbox 0 _ rfl, hc⟩)
        replace hfeed := Lib.hid hfeed
        replace hstep := Lib.hid hstep
        replace hown := Lib.hid hown
        replace hbel := Lib.hid hbel
        replace hvs := Lib.hid hvs
        replace hbox := Lib.hid hbox
        clear hcell hsn hx hm ho hq hft hc hvso hap
        go_upto_region 10 with (fail)
        generalize hwq : wr = wq at *
        go_cut [10, 11] (fun u t wx => Mid9 29 wq (q1, q2) u t wx)
        case first =>
          go_region_held3 (fun w' => w'.cell? ⟨w1.heap.size, 0, none⟩ = some (.slice ps m.length cs) ∧ w'.cell? ⟨b, off + k, none⟩ = some (.int .i64 x))
            (first | exact H2.out | exact held_drew (held_at (below_new wq _) H2.out) | exact held_at hb2 H2.out | exact held_drew (held_at (below_new w2 _) (held_at hb2 H2.out)) | exact held_at hb2 (held_drew (held_at (below_new wq _) H2.out)) | exact held_set (held_at hb2 (held_drew (held_at (below_new wq _) H2.out))) (by simp; omega) (by simp; omega))
            (first | (go_at_call 11; refine (hfeed.out _ _ (by first | exact hvs.out | exact ri_drew (ri_below hvs.out (below_new wq _)))).mono ?_; rintro e w2 ⟨va, vb, rfl, ha, ht, hb2⟩; replace ht := ri_of_own ht; obtain ⟨pa, ca, rfl⟩ := ri_form (ri_of_own ha); replace ha := Lib.hid ha; replace ht := Lib.hid ht; try (have h5 := blk_below (w := (wq.alloc (Obj.cells #[Value.slice none 0 0] 29)).drew) (blk_new wq #[Value.slice none 0 0] 29) hb2; have h5c := blk_cell h5 0 _ rfl; have h5f := blk_thaw h5 0; replace h5 := Lib.hid h5)))
          all_goals go_wp2_with fail
          all_goals go_meet
          · exact mid9_last ha.out ht.out hb2
          · exact mid9_first ha.out ht.out hb2
        case rest =>
          obtain ⟨bt, va, rfl, hbt, hbxt, ha, ht, hbc⟩ := hcut
          obtain ⟨pa, ca, rfl⟩ := ri_form (ri_of_own ha)
          have hboxc := blk_below hbox.out hbc
          have kt := blk_cell hbxt 0 _ rfl
          have ks := blk_cell hboxc 0 _ rfl
          have fs := blk_thaw hboxc 0
          have hnew := Lib.hid (blk_set (u := .slice pa q1.length ca) hboxc)
          have ha' := Lib.hid (ownI_set ha ⟨w1.heap.size, 0, none⟩ (.slice pa q1.length ca) (ownI_ne ha hkA))
          have ht' := Lib.hid (ri_src (ri_store ht hboxc (no_slice _ _ _) (.slice pa q1.length ca)))
          have ho' := Lib.hid (ownI_set (ownI_below hown.out hbc) ⟨w1.heap.size, 0, none⟩ (.slice pa q1.length ca) (ownI_ne hown.out (by simp)))
          have hapart := own_apart ha hown.out
          have hnot := Lib.hid (own_not hown.out (Nat.lt_succ_self w1.heap.size))
          have h8a : o.length + q2.length ≤ maxLen := by unfold maxLen; omega
          have h8b : (o.length + q2.length) * 8 ≤ 140737488355328 := by omega
          replace h8a := Lib.hid h8a
          replace h8b := Lib.hid h8b
          have hbel' := Lib.hid ((hbel.out.trans (hbc.mono hbel.out.size)).setCell (p := ⟨w1.heap.size, 0, none⟩) (Nat.le_refl _) (.slice pa q1.length ca))
          have hsz : w1.heap.size + 1 ≤ (wc.setCell ⟨w1.heap.size, 0, none⟩ (.slice pa q1.length ca)).heap.size := by have := hbc.size; simp; omega
          replace hsz := Lib.hid hsz
          have hkA' := Lib.hid (show w1.heap.size + 1 ≤ wq.heap.size from hkA)
          replace hapart := Lib.hid hapart
          replace hbxt := Lib.hid hbxt
          clear ha ht hboxc hbc H2 hfeed hbel hvs hbox hwq
          go_wp2_with (at_builtin; refine wpList_append_src3 rfl _ _ 22 rfl (w1.heap.size + 1) 3 i0 (.int .i64 0) 8 Tryd.underlying22 hi hz0 hz1 hz2 rfl _ _ _ rfl ho'.out _ _ rfl ht'.out (oneCellI q2) (by rw [List.length_map]; exact h8a.out) (by rw [List.length_map]; exact h8b.out) hsz.out ?_; intro v5 w5 hown5 hgrow5 hlies5; have o5 := Lib.hid (ownI_of_row (l := o ++ q2) hown5 (by simp) (by simp)); have b5 := Lib.hid (below_row hbel'.out hgrow5 hbel'.out.size ho'.out (by omega)); have x5 := Lib.hid (blk_grown hnew.out hgrow5 hnot.out); have a5 := Lib.hid (World.ownsRow.kept ha'.out hgrow5 hapart.out); have p5 := Lib.hid (lies_apart ha'.out hapart.out hlies5); clear hown5 hgrow5 hlies5)
          go_roundg (l.length - (k + 1))
          case measure => omega
          case rel => exact ⟨k + 1, .slice pa q1.length ca, by omega, by go_num, rfl, x5.out, by rw [hstep.out]; exact ownI_mono a5.out hkA'.out, by rw [hstep.out]; exact o5.out, p5.out, by rw [hstep.out]; simp; omega, b5.out⟩
      · obtain rfl : k = l.length := by omega
        have hlt' : decide ((l.length : Int) < (l.length : Int)) = false := by simp
        rw [List.take_length] at hvso hown hol hml hbox hap
        have hkept := Nor.kept_feeds l
        have hAll : Nor.allI l = (Nor.feedsI [] l).2 ++ Nor.endI (Nor.feedsI [] l).1 := rfl
        obtain ⟨m, hm⟩ : ∃ m, (Nor.feedsI [] l).1 = m := ⟨_, rfl⟩
        obtain ⟨o, ho⟩ : ∃ o, (Nor.feedsI [] l).2 = o := ⟨_, rfl⟩
        rw [hm] at hvso hml hbox hkept hAll hap
        rw [ho] at hown hol hAll
        have hEm : Nor.endI m = Can.composeI m := by unfold Nor.endI; rw [if_pos (Nor.kept_sane hkept)]
        rw [hEm] at hAll
        have hfl := Nor.feed_letter hkept (x := y) (by have := hxx.out; omega) (by have := hxx.out; omega)
        have hCl := Can.compose_le m
        obtain ⟨C, hC⟩ : ∃ C, Can.composeI m = C := ⟨_, rfl⟩
        rw [hC] at hEm hAll hfl hCl
        have hfx := Lib.hid (fun V W h => feed_of9 hF (v := V) (w := W) hfl (by omega) h)
        have hall := Lib.hid (fun W h => all_of9 hA (v := .slice p l.length cap) (w := W) hAll (by omega) h)
        have hend := Lib.hid (fun V W h => end_of9 hE (v := V) (w := W) hEm (by omega) h)
        have hCn : C.length ≤ 31 := by omega
        have hon : o.length ≤ 13000 := by omega
        have h8a := Lib.hid (show o.length + C.length ≤ maxLen by unfold maxLen; omega)
        have h8b := Lib.hid (show (o.length + C.length) * 8 ≤ 140737488355328 by omega)
        have st := Lib.hid (ri_of_own hvso)
        have sto := Lib.hid hvso
        have ow := Lib.hid hown
        have hownR := Lib.hid hown
        have st_b := Lib.hid hbox
        have hB1 := Lib.hid b1.out.size
        have hB2 := Lib.hid (show w1.heap.size + 1 ≤ wr.heap.size from blk_lt hbox)
        have bR := Lib.hid (below_on b1.out hbel)
        have hrl := Lib.hid (ri_below hri.out bR.out)
        replace hap := Lib.hid hap
        clear hm ho hAll hEm hfl hC hCl hkept hvso hown hbox hbel hml hol
        have st_c := blk_cell st_b.out 0 _ rfl
        go_wp2_with fail
        refine (hfx.out _ _ st.out).mono ?_
        rintro e w2 ⟨v_u, v_td, rfl, u, td, q2⟩
        clear st_c
        have u_o := u
        have td_o := td
        replace u : RI w2 v_u ([y]) := ri_of_own u
        replace td : RI w2 v_td (C) := ri_of_own td
        obtain ⟨p_u, c_u, rfl⟩ := ri_form u
        obtain ⟨p_td, c_td, rfl⟩ := ri_form td
        replace u := Lib.hid u
        replace td := Lib.hid td
        replace st_b := Lib.hid (blk_below st_b.out q2)
        replace st := Lib.hid (ri_below st.out q2)
        replace hrl := Lib.hid (ri_below hrl.out q2)
        replace ow := Lib.hid (ownI_below ow.out q2)
        replace sto := Lib.hid (ownI_below sto.out q2)
        have z2 := Lib.hid q2.size
        have b2 := Lib.hid (below_on bR.out q2)
        clear q2
        replace u_o := Lib.hid u_o
        replace td_o := Lib.hid td_o
        have nb_u := below_new w2 (.cells #[.slice p_u ([y]).length c_u] 29)
        replace st_b := Lib.hid (blk_below st_b.out nb_u)
        replace st := Lib.hid (ri_below st.out nb_u)
        replace hrl := Lib.hid (ri_below hrl.out nb_u)
        replace u := Lib.hid (ri_below u.out nb_u)
        replace td := Lib.hid (ri_below td.out nb_u)
        replace ow := Lib.hid (ownI_below ow.out nb_u)
        replace sto := Lib.hid (ownI_below sto.out nb_u)
        replace u_o := Lib.hid (ownI_below u_o.out nb_u)
        replace td_o := Lib.hid (ownI_below td_o.out nb_u)
        have u_b := Lib.hid (blk_new w2 #[.slice p_u ([y]).length c_u] 29)
        replace b2 := Lib.hid (b2.out.alloc b2.out.size (.cells #[.slice p_u ([y]).length c_u] 29))
        clear nb_u
        have hneu := Lib.hid (own_not_ge hownR.out z2.out)
        have hszA := Lib.hid (Nat.le_trans hB2.out (Nat.le_trans z2.out (below_new w2 (.cells #[.slice p_u ([y]).length c_u] 29)).size))
        have apu := Lib.hid (own_apart u_o.out hownR.out)
        have apt := Lib.hid (own_apart td_o.out hownR.out)
        have s2 := Lib.hid (ri_src td.out)
        go_wp2_with (at_builtin; refine wpList_append_src3 rfl _ _ 22 rfl (w1.heap.size + 1) 3 i0 (.int .i64 0) 8 Tryd.underlying22 hi hz0 hz1 hz2 rfl _ _ _ rfl ow.out _ _ rfl s2.out (oneCellI C) (by rw [List.length_map]; exact h8a.out) (by rw [List.length_map]; exact h8b.out) hszA.out ?_; intro v5 w5 hown5 hgrow5 hlies5; have o5 := Lib.hid (ri_of_own (ownI_of_row (l := o ++ C) hown5 (by simp) (by simp))); have b5 := Lib.hid (below_row b2.out hgrow5 b2.out.size ow.out (Nat.le_succ_of_le hB1.out)); have st5_b := Lib.hid (blk_grown st_b.out hgrow5 (own_not ow.out (Nat.lt_succ_self _))); have u5_b := Lib.hid (blk_grown u_b.out hgrow5 hneu.out); have st5 := Lib.hid (ri_of_own (World.ownsRow.kept sto.out hgrow5 hap.out)); have u5 := Lib.hid (ri_of_own (World.ownsRow.kept u_o.out hgrow5 apu.out)); have td5 := Lib.hid (ri_of_own (World.ownsRow.kept td_o.out hgrow5 apt.out)); have hr5 := Lib.hid (ri_below hri.out b5.out); clear hown5 hgrow5 hlies5)
        clear s2 apu apt hneu st_b u_b sto u_o td_o ow st u td hrl hap b2
        have st5_c := blk_cell st5_b.out 0 _ rfl
        have u5_c := blk_cell u5_b.out 0 _ rfl
        go_wp2_with fail
        refine (hall.out _ hr5.out).mono ?_
        rintro e w6 ⟨v_a, rfl, a, q6⟩
        clear st5_c u5_c
        replace a := Lib.hid a
        replace st5_b := Lib.hid (blk_below st5_b.out q6)
        replace u5_b := Lib.hid (blk_below u5_b.out q6)
        replace o5 := Lib.hid (ri_below o5.out q6)
        replace st5 := Lib.hid (ri_below st5.out q6)
        replace u5 := Lib.hid (ri_below u5.out q6)
        replace td5 := Lib.hid (ri_below td5.out q6)
        replace hr5 := Lib.hid (ri_below hr5.out q6)
        have b6 := Lib.hid (below_on b5.out q6)
        clear q6
        have st5_c := blk_cell st5_b.out 0 _ rfl
        have u5_c := blk_cell u5_b.out 0 _ rfl
        go_wp2_with fail
        refine (same_self _ _ (o ++ C) _ (by rw [List.length_append]; omega) o5.out a.out).mono ?_
        rintro e w7 ⟨rfl, q7⟩
        clear st5_c u5_c
        replace st5_b := Lib.hid (blk_below st5_b.out q7)
        replace u5_b := Lib.hid (blk_below u5_b.out q7)
        replace o5 := Lib.hid (ri_below o5.out q7)
        replace st5 := Lib.hid (ri_below st5.out q7)
        replace u5 := Lib.hid (ri_below u5.out q7)
        replace td5 := Lib.hid (ri_below td5.out q7)
        replace hr5 := Lib.hid (ri_below hr5.out q7)
        replace a := Lib.hid (ri_below a.out q7)
        have b7 := Lib.hid (below_on b6.out q7)
        clear q7
        clear a o5
        obtain ⟨gu, ou, rfl, hlu, hcu⟩ := ri_at u5.out (by simp)
        have x0 : w7.cell? ⟨gu, ou, none⟩ = some (.int .i64 y) := hcu 0 (by simp)
        clear hcu
        have st5_c := blk_cell st5_b.out 0 _ rfl
        have u5_c := blk_cell u5_b.out 0 _ rfl
        go_wp2_with fail
        refine (hend.out _ _ st5.out).mono ?_
        rintro e w8 ⟨v_e, rfl, e, q8⟩
        clear st5_c u5_c
        replace e := Lib.hid e
        replace st5_b := Lib.hid (blk_below st5_b.out q8)
        replace u5_b := Lib.hid (blk_below u5_b.out q8)
        replace st5 := Lib.hid (ri_below st5.out q8)
        replace u5 := Lib.hid (ri_below u5.out q8)
        replace td5 := Lib.hid (ri_below td5.out q8)
        replace hr5 := Lib.hid (ri_below hr5.out q8)
        have b8 := Lib.hid (below_on b7.out q8)
        clear q8
        clear x0
        have st5_c := blk_cell st5_b.out 0 _ rfl
        have u5_c := blk_cell u5_b.out 0 _ rfl
        go_wp2_with fail
        refine (same_self _ _ C _ (by omega) e.out td5.out).mono ?_
        rintro e w9 ⟨rfl, q9⟩
        clear st5_c u5_c
        replace st5_b := Lib.hid (blk_below st5_b.out q9)
        replace u5_b := Lib.hid (blk_below u5_b.out q9)
        replace st5 := Lib.hid (ri_below st5.out q9)
        replace u5 := Lib.hid (ri_below u5.out q9)
        replace td5 := Lib.hid (ri_below td5.out q9)
        replace hr5 := Lib.hid (ri_below hr5.out q9)
        replace e := Lib.hid (ri_below e.out q9)
        have b9 := Lib.hid (below_on b8.out q9)
        clear q9
        have st5_c := blk_cell st5_b.out 0 _ rfl
        have u5_c := blk_cell u5_b.out 0 _ rfl
        go_wp2_with fail
        go_ret
        exact ⟨rfl, b9.out⟩
  · have hl' : decide (100 < l.length) = true := decide_eq_true (by omega)
    have hl2 : (100 : Int) < (l.length : Int) := by omega
    clear hS hF hE hA
    go_enter Tryd.func6, Tryd.ntmps6
    go_wp2_with fail
    refine (hawake.out _).mono ?_
    rintro e w1 ⟨rfl, q1⟩
    replace hri := Lib.hid (ri_below hri.out q1)
    have b1 := Lib.hid q1
    clear q1
    go_wp2_with fail
    go_ret
    exact ⟨rfl, b1.out⟩

end Go.Proofs.YthmiiegbgonkhaaDoor
