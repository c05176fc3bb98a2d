/- Layer 9: the walk of NormParts. -/
import Derived.Test.YthmiiegbgonkhaaDoorNoW0
import Derived.Test.YthmiiegbgonkhaaDoorNoB
import Derived.Test.YthmiiegbgonkhaaDoorNfW0
import Derived.Test.YthmiiegbgonkhaaDoorK7
import Derived.Deep.LoopGhost
import Derived.Deep.DeepCutAuto
namespace Go.Proofs.YthmiiegbgonkhaaDoor
set_option linter.unusedSimpArgs false
set_option linter.unusedVariables false
open Go.RowKit Go.Lib

set_option maxHeartbeats 12800000 in
set_option maxRecDepth 100000 in
theorem normParts_walk (hS : SaneC9) (hF : FeedC9) (hE : EndC9) (hK : NfkcC) (va : Value) (a : List Int) (vb : Value) (b : List Int) (w : World) (hva : RI w va a ∧ WfI a) (hvb : RI w vb b ∧ WfI b) :
    Calls Tryd.prog 5 #[va, vb] w fun e w' => e = .returned (.bool true) ∧ Below w.heap.size w w' := by
  obtain ⟨hra, hwa⟩ := hva
  obtain ⟨hrb, hwb⟩ := hvb
  obtain ⟨i0, hi, hz0, hz1, hz2⟩ := info_parts info_i
  obtain ⟨pa, ca, rfl⟩ := ri_form hra
  obtain ⟨pb, cb, rfl⟩ := ri_form hrb
  have hawake := Lib.hid (awake9 hS hF hE)
  replace hra := Lib.hid hra
  replace hrb := Lib.hid hrb
  by_cases hl : a.length ≤ 60
  · have hl' : decide (60 < a.length) = false := decide_eq_false (by omega)
    have hl2 : ¬ (60 : Int) < (a.length : Int) := by omega
    by_cases hm : b.length ≤ 60
    · have hm' : decide (60 < b.length) = false := decide_eq_false (by omega)
      have hm2 : ¬ (60 : Int) < (b.length : Int) := by omega
      have hpre := Lib.hid (Nor.told_begins a b)
      have hnf := fun V W h => nfkc_of hK (v := V) (w := W) (l := a ++ b) rfl (by simp; omega) (wfI_app hwa hwb) h
      replace hnf := Lib.hid hnf
      clear hwa hwb hK
      go_enter Tryd.func5, Tryd.ntmps5
      go_wp2_with fail
      refine (hawake.out _).mono ?_
      rintro e w1 ⟨rfl, q1⟩
      have b1 := Lib.hid q1
      clear q1
      have hv1 := Lib.hid (ri_below hra.out b1.out)
      go_wp2_with fail
      go_loopg [7, 8] a.length (fun g vo vi wr => ∃ (k : Nat) (vs : Value), k ≤ a.length ∧ vi = .int .i64 k ∧ g = a.length - k ∧ Blk wr w1.heap.size #[vs] 29 ∧ OwnI (w1.heap.size + 1) vs (Nor.feedsI [] (a.take k)).1 wr ∧ OwnI (w1.heap.size + 1) vo (Nor.feedsI [] (a.take k)).2 wr ∧ (vs.ownBlock = none ∨ vs.ownBlock ≠ vo.ownBlock) ∧ (Nor.feedsI [] (a.take k)).2.length ≤ 130 * k ∧ Below w1.heap.size w1 wr)
      case atStart => exact ⟨0, .slice none 0 0, Nat.zero_le _, rfl, rfl, blk_new _ _ _, ownI_nil _ _, ownI_nil _ _, .inl rfl, by simp [Nor.feedsI], below_new _ _⟩
      case round =>
        obtain ⟨k, vs, hk, rfl, rfl, hbox, hvso, hown, hap, hol, hbel⟩ := hrel
        have hml := Nor.kept_len (Nor.kept_feeds (a.take k))
        obtain ⟨ps, cs, rfl⟩ := ri_form (ri_of_own hvso)
        by_cases hlt : k < a.length
        · have hlt' : (k : Int) < (a.length : Int) := by omega
          obtain ⟨b, off, rfl, hb, hcell⟩ := ri_at hv1.out (by omega)
          have hc : wr.cell? ⟨b, off + k, none⟩ = some (.int .i64 a[k]) := (hbel.cell hb).trans (hcell k hlt)
          have hsn : a.take (k + 1) = a.take k ++ [a[k]] := by rw [List.take_succ_eq_append_getElem hlt]
          have hstep := feeds_snoc (a.take k) a[k]
          rw [← hsn] at hstep
          obtain ⟨x, hx⟩ : ∃ x, a[k] = x := ⟨_, rfl⟩
          rw [hx] at hc hstep
          obtain ⟨m, hm⟩ : ∃ m, (Nor.feedsI [] (a.take k)).1 = m := ⟨_, rfl⟩
          obtain ⟨o, ho⟩ : ∃ o, (Nor.feedsI [] (a.take k)).2 = o := ⟨_, rfl⟩
          rw [hm] at hvso hstep hml hbox
          rw [ho] at hown hstep hol
          have hvs := ri_of_own hvso
          have hft := Nor.feed_told m x
          have hfeed := fun (v' : Value) (W : World) (hv' : RI W v' m) => feed_of9 hF (v := v') (l := m) (r := x) (w := W) rfl (by omega) hv'
          obtain ⟨q, hq⟩ : ∃ q, Nor.feedI m x = q := ⟨_, rfl⟩
          rw [hq] at hstep hft hfeed
          obtain ⟨q1, q2⟩ := q
          have hq2 : q2.length ≤ 130 := hft
          have hkA : w1.heap.size < wr.heap.size := blk_lt hbox
          have hkB : b < wr.heap.size := Nat.lt_of_lt_of_le hb hbel.size
          have H2 := Lib.hid (show wr.cell? ⟨w1.heap.size, 0, none⟩ = some (.slice ps m.length cs) ∧ wr.cell? ⟨b, off + k, none⟩ = some (.int .i64 x) from ⟨blk_cell hbox 0 _ rfl, hc⟩)
          replace hfeed := Lib.hid hfeed
          replace hstep := Lib.hid hstep
          replace hown := Lib.hid hown
          replace hbel := Lib.hid hbel
          replace hvs := Lib.hid hvs
          replace hbox := Lib.hid hbox
          clear hcell hsn hx hm ho hq hft hc hvso hap
          go_upto_region 9 with (fail)
          generalize hwq : wr = wq at *
          go_cut [9, 10] (fun u t wx => Mid9 29 wq (q1, q2) u t wx)
          case first =>
            go_region_held3 (fun w' => w'.cell? ⟨w1.heap.size, 0, none⟩ = some (.slice ps m.length cs) ∧ w'.cell? ⟨b, off + k, none⟩ = some (.int .i64 x))
              (first | exact H2.out | exact held_drew (held_at (below_new wq _) H2.out) | exact held_at hb2 H2.out | exact held_drew (held_at (below_new w2 _) (held_at hb2 H2.out)) | exact held_at hb2 (held_drew (held_at (below_new wq _) H2.out)) | exact held_set (held_at hb2 (held_drew (held_at (below_new wq _) H2.out))) (by simp; omega) (by simp; omega))
              (first | (go_at_call 11; refine (hfeed.out _ _ (by first | exact hvs.out | exact ri_drew (ri_below hvs.out (below_new wq _)))).mono ?_; rintro e w2 ⟨va, vb, rfl, ha, ht, hb2⟩; replace ht := ri_of_own ht; obtain ⟨pa, ca, rfl⟩ := ri_form (ri_of_own ha); replace ha := Lib.hid ha; replace ht := Lib.hid ht; try (have h5 := blk_below (w := (wq.alloc (Obj.cells #[Value.slice none 0 0] 29)).drew) (blk_new wq #[Value.slice none 0 0] 29) hb2; have h5c := blk_cell h5 0 _ rfl; have h5f := blk_thaw h5 0; replace h5 := Lib.hid h5)))
            all_goals go_wp2_with fail
            all_goals go_meet
            · exact mid9_last ha.out ht.out hb2
            · exact mid9_first ha.out ht.out hb2
          case rest =>
            obtain ⟨bt, va, rfl, hbt, hbxt, ha, ht, hbc⟩ := hcut
            obtain ⟨pa, ca, rfl⟩ := ri_form (ri_of_own ha)
            have hboxc := blk_below hbox.out hbc
            have kt := blk_cell hbxt 0 _ rfl
            have ks := blk_cell hboxc 0 _ rfl
            have fs := blk_thaw hboxc 0
            have hnew := Lib.hid (blk_set (u := .slice pa q1.length ca) hboxc)
            have ha' := Lib.hid (ownI_set ha ⟨w1.heap.size, 0, none⟩ (.slice pa q1.length ca) (ownI_ne ha hkA))
            have ht' := Lib.hid (ri_src (ri_store ht hboxc (no_slice _ _ _) (.slice pa q1.length ca)))
            have ho' := Lib.hid (ownI_set (ownI_below hown.out hbc) ⟨w1.heap.size, 0, none⟩ (.slice pa q1.length ca) (ownI_ne hown.out (by simp)))
            have hapart := own_apart ha hown.out
            have hnot := Lib.hid (own_not hown.out (Nat.lt_succ_self w1.heap.size))
            have h8a : o.length + q2.length ≤ maxLen := by unfold maxLen; omega
            have h8b : (o.length + q2.length) * 8 ≤ 140737488355328 := by omega
            replace h8a := Lib.hid h8a
            replace h8b := Lib.hid h8b
            have hbel' := Lib.hid ((hbel.out.trans (hbc.mono hbel.out.size)).setCell (p := ⟨w1.heap.size, 0, none⟩) (Nat.le_refl _) (.slice pa q1.length ca))
            have hsz : w1.heap.size + 1 ≤ (wc.setCell ⟨w1.heap.size, 0, none⟩ (.slice pa q1.length ca)).heap.size := by have := hbc.size; simp; omega
            replace hsz := Lib.hid hsz
            have hkA' := Lib.hid (show w1.heap.size + 1 ≤ wq.heap.size from hkA)
            replace hapart := Lib.hid hapart
            replace hbxt := Lib.hid hbxt
            clear ha ht hboxc hbc H2 hfeed hbel hvs hbox hwq
            go_wp2_with (at_builtin; refine wpList_append_src3 rfl _ _ 22 rfl (w1.heap.size + 1) 3 i0 (.int .i64 0) 8 Tryd.underlying22 hi hz0 hz1 hz2 rfl _ _ _ rfl ho'.out _ _ rfl ht'.out (oneCellI q2) (by rw [List.length_map]; exact h8a.out) (by rw [List.length_map]; exact h8b.out) hsz.out ?_; intro v5 w5 hown5 hgrow5 hlies5; have o5 := Lib.hid (ownI_of_row (l := o ++ q2) hown5 (by simp) (by simp)); have b5 := Lib.hid (below_row hbel'.out hgrow5 hbel'.out.size ho'.out (by omega)); have x5 := Lib.hid (blk_grown hnew.out hgrow5 hnot.out); have a5 := Lib.hid (World.ownsRow.kept ha'.out hgrow5 hapart.out); have p5 := Lib.hid (lies_apart ha'.out hapart.out hlies5); clear hown5 hgrow5 hlies5)
            go_roundg (a.length - (k + 1))
            case measure => omega
            case rel => exact ⟨k + 1, .slice pa q1.length ca, by omega, by go_num, rfl, x5.out, by rw [hstep.out]; exact ownI_mono a5.out hkA'.out, by rw [hstep.out]; exact o5.out, p5.out, by rw [hstep.out]; simp; omega, b5.out⟩
        · obtain rfl : k = a.length := by omega
          have hlt' : decide ((a.length : Int) < (a.length : Int)) = false := by simp
          rw [List.take_length] at hown hol hvso hml hbox hap
          have hp := hpre.out
          obtain ⟨o, ho⟩ : ∃ o, (Nor.feedsI [] a).2 = o := ⟨_, rfl⟩
          rw [ho] at hown hol hp
          obtain ⟨A, hA⟩ : ∃ A, a ++ b = A := ⟨_, rfl⟩
          have hnf' := hnf.out
          rw [hA] at hp hnf'
          obtain ⟨C, hC⟩ : ∃ C, Nfk.nfkcI A = C := ⟨_, rfl⟩
          rw [hC] at hp hnf'
          have hoC := hp.length_le
          have hget : ∀ j (h : j < o.length), C[j]'(by omega) = o[j] := fun j h => (List.IsPrefix.getElem hp h).symm
          have hon : o.length ≤ 13000 := by omega
          obtain ⟨po, co, rfl⟩ := ri_form (ri_of_own hown)
          have ro := Lib.hid (ri_of_own hown)
          have bR := Lib.hid (below_on b1.out hbel)
          have hoC1 : ¬ (C.length : Int) < (o.length : Int) := by omega
          have hoC2 : decide (C.length < o.length) = false := decide_eq_false (by omega)
          have e1 := Lib.hid (ownI_lit wr.heap.size wr [] #[] wr.heap.size 0 rfl (Nat.le_refl _) rfl rfl (by unfold maxLen; omega))
          have g1 := Lib.hid (below_new wr (.cells #[] 3))
          have s1 := Lib.hid (ri_src (ri_below hra.out (below_on bR.out g1.out)))
          replace hA := Lib.hid hA
          replace hnf' := Lib.hid hnf'
          replace hget := Lib.hid hget
          clear hvso hown hap hol hml hbox hbel hp hC ho
          go_upto_region 13 with (at_builtin; refine wpList_append_src rfl _ _ 22 rfl wr.heap.size 3 i0 (.int .i64 0) 8 Tryd.underlying22 hi hz0 hz1 hz2 rfl _ _ _ rfl e1.out _ _ rfl s1.out (oneCellI _) (by unfold maxLen; first | (simp; done) | (simp; omega)) (by first | (simp; done) | (simp; omega)) g1.out.size ?_; intro v2 w2 ho2 hg2; have o2 := Lib.hid (ownI_of_row (l := a) ho2 (by (try simp); try omega) (by (try simp); try omega)); have b2 := Lib.hid (below_row g1.out hg2 g1.out.size e1.out (Nat.le_refl _)); clear ho2 hg2)
          have s2 := Lib.hid (ri_src (ri_below hrb.out (below_on bR.out b2.out)))
          clear e1 s1 g1
          go_wp2_with (at_builtin; refine wpList_append_src rfl _ _ 22 rfl wr.heap.size 3 i0 (.int .i64 0) 8 Tryd.underlying22 hi hz0 hz1 hz2 rfl _ _ _ rfl o2.out _ _ rfl s2.out (oneCellI _) (by unfold maxLen; first | (simp; done) | (simp; omega)) (by first | (simp; done) | (simp; omega)) b2.out.size ?_; intro v3 w3 ho3 hg3; have o3 := Lib.hid (ownI_of_row (l := a ++ b) ho3 (by (try simp); try omega) (by (try simp); try omega)); have b3 := Lib.hid (below_row b2.out hg3 b2.out.size o2.out (Nat.le_refl _)); clear ho3 hg3)
          have r3 := Lib.hid (ri_cast (ri_of_own o3.out) hA.out)
          have ro3 := Lib.hid (ri_below ro.out b3.out)
          have b4 := Lib.hid (below_on bR.out b3.out)
          clear o2 s2 b2 o3 b3
          refine (hnf'.out _ _ r3.out).mono ?_
          rintro e w5 ⟨v5, rfl, r5, q5⟩
          obtain ⟨p5, c5, rfl⟩ := ri_form r5
          have ro5 := Lib.hid (ri_below ro3.out q5)
          have b5 := Lib.hid (below_on b4.out q5)
          replace r5 := Lib.hid r5
          clear ro3 b4 q5 r3
          go_wp2_with fail
          go_loopg [13] o.length (fun g vi wy => ∃ j n : Nat, j ≤ o.length ∧ vi = .int .i64 j ∧ g = o.length - j ∧ wy = w5.drewN n)
          case atStart => exact ⟨0, 0, Nat.zero_le _, rfl, rfl, rfl⟩
          case round =>
            obtain ⟨j, n, hj, rfl, rfl, rfl⟩ := hrel
            by_cases hjo : j < o.length
            · have hj1 : (j : Int) < (o.length : Int) := by omega
              have hj2 : (j : Int) < (C.length : Int) := by omega
              obtain ⟨bo, oo, rfl, _, h1⟩ := ri_at ro5.out (by omega)
              obtain ⟨bc, oc, rfl, _, h2⟩ := ri_at r5.out (by omega)
              obtain ⟨x, hx⟩ : ∃ x, o[j] = x := ⟨_, rfl⟩
              have hc1 : w5.cell? ⟨bo, oo + j, none⟩ = some (.int .i64 x) := by rw [← hx]; exact h1 j hjo
              have hc2 : w5.cell? ⟨bc, oc + j, none⟩ = some (.int .i64 x) := by rw [← hx, ← hget.out j hjo]; exact h2 j (by omega)
              have f1 : (x == x) = true := by simp
              have f2 : (x != x) = false := by simp
              clear h1 h2 hx
              go_wp2_with fail
              go_quiet (fail)
              go_wp2_with fail
              go_roundg (o.length - (j + 1))
              case measure => omega
              case rel => exact ⟨j + 1, _, by omega, by go_num, rfl, by first | rfl | exact World.drewN_drewN _ _ _⟩
            · obtain rfl : j = o.length := by omega
              have hj1 : decide ((o.length : Int) < (o.length : Int)) = false := by simp
              have bE := Lib.hid (below_on b5.out (drewN_below w5 n))
              go_wp2_with fail
              go_ret
              exact ⟨rfl, bE.out⟩
    · have hm' : decide (60 < b.length) = true := decide_eq_true (by omega)
      have hm2 : (60 : Int) < (b.length : Int) := by omega
      clear hS hF hE hK hwa hwb
      go_enter Tryd.func5, Tryd.ntmps5
      go_wp2_with fail
      refine (hawake.out _).mono ?_
      rintro e w1 ⟨rfl, q1⟩
      have b1 := Lib.hid q1
      clear q1
      go_wp2_with fail
      go_ret
      exact ⟨rfl, b1.out⟩
  · have hl' : decide (60 < a.length) = true := decide_eq_true (by omega)
    have hl2 : (60 : Int) < (a.length : Int) := by omega
    clear hS hF hE hK hwa hwb
    go_enter Tryd.func5, Tryd.ntmps5
    go_wp2_with fail
    refine (hawake.out _).mono ?_
    rintro e w1 ⟨rfl, q1⟩
    have b1 := Lib.hid q1
    clear q1
    go_wp2_with fail
    go_ret
    exact ⟨rfl, b1.out⟩

end Go.Proofs.YthmiiegbgonkhaaDoor
