/- Layer 15: the code's All. -/
import Derived.Test.YtiidjkhkcckmkaaGreatDoorMaA6
import Derived.Test.YtiidjkhkcckmkaaGreatDoorMaL
import Derived.Test.YtiidjkhkcckmkaaGreatDoorBasP
import Derived.Deep.RegionHeld
import Derived.Deep.LoopGhost
import Derived.Deep.DeepCutAuto
import Derived.OrdersHeld
namespace Go.Proofs.YtiidjkhkcckmkaaGreatDoor
set_option linter.unusedSimpArgs false
set_option linter.unusedVariables false
open Go.RowKit Go.Lib
open Mch (MS)
set_option maxHeartbeats 12800000 in
set_option maxRecDepth 100000 in
theorem all15_any (kind : Int) (va : Value) (a : List Int) (w : World) (hT : Tabs w) (hl : a.length ≤ 30000) (hra : RI w va a) (hwa : WfI a) :
    Calls Tryz.prog 24 #[.int .i64 kind, va] w (Told (Mch.allM kind a) w) := by
  obtain ⟨pa, ca, rfl⟩ := ri_form hra
  obtain ⟨i0, hi, hz0, hz1, hz2⟩ := info_parts info_i
  have hnew := Lib.hid (fun W => new15_any kind W)
  have hfeed := fun (l : List Int) (x : Int) (hx : I64 x) V W hT' h => feed15_any V (Mch.feedsM (Mch.newM kind) l).1 x W hT' (Mch.small_sane (Mch.feeds_sane kind l)) h hx
  have hend := fun V W hT' h => end15_any V (Mch.feedsM (Mch.newM kind) a).1 W hT' (Mch.small_sane (Mch.feeds_sane kind a)) h
  have het := (Mch.end_told (Mch.feedsM (Mch.newM kind) a).1).1
  unfold Mch.allM
  obtain ⟨G, hG⟩ : ∃ G, Mch.feedsM (Mch.newM kind) = G := ⟨_, rfl⟩
  have hG0 : G [] = (Mch.newM kind, []) := by rw [← hG]; rfl
  have hG1 : ∀ l x, G (l ++ [x]) = ((Mch.feedM (G l).1 x).1, (G l).2 ++ (Mch.feedM (G l).1 x).2) := by rw [← hG]; exact Mch.feeds_snoc _
  rw [hG] at hfeed hend het ⊢
  have hnk : Mch.newM kind = Mch.bare (if 0 ≤ kind ∧ kind ≤ 4 then kind else 0) := rfl
  obtain ⟨nk, hnke⟩ : ∃ nk, (if 0 ≤ kind ∧ kind ≤ 4 then kind else 0) = nk := ⟨_, rfl⟩
  rw [hnke] at hnk hnew
  obtain ⟨EE, hEE⟩ : ∃ EE, (G a).2 ++ (Mch.endM (G a).1).2 = EE := ⟨_, rfl⟩
  rw [hEE]
  replace hfeed := Lib.hid hfeed
  replace hend := Lib.hid hend
  replace het := Lib.hid het
  replace hEE := Lib.hid hEE
  replace hG0 := Lib.hid hG0
  replace hG1 := Lib.hid hG1
  replace hnk := Lib.hid hnk
  replace hra := Lib.hid hra
  replace hwa := Lib.hid hwa
  replace hT := Lib.hid hT
  clear hG hnke
  go_enter Tryz.func24, Tryz.ntmps24
  go_wp2_with fail
  refine (hnew.out _).mono ?_
  rintro e w2 ⟨rfl, q2⟩
  have hb2 := Lib.hid q2
  have T2 := Lib.hid (tabs_below15 hT.out q2)
  have st0 : Fed15 41 w2.heap.size w2 (G []) (.slice none 0 0) (w2.alloc (.cells (bare9 nk) 41)) := by
    rw [hG0.out, hnk.out]
    exact ⟨none, 0, none, 0, none, 0, blk_new _ _ _, ⟨nilV, nilV, nilV, rfl, .inl ⟨rfl, rfl⟩, .inl ⟨rfl, rfl⟩, .inl ⟨rfl, rfl⟩⟩, (offM_iff _ (Mch.bare nk) nilV nilV nilV).2 ⟨off_nil _, off_nil _, off_nil _⟩, (fun j e => by cases e), ownI_nil _ _, below_new w2 _⟩
  replace st0 := Lib.hid st0
  clear q2
  have hraW := Lib.hid (ri_below hra.out hb2.out)
  go_wp2_with fail
  go_loopg [6, 7, 9, 14] a.length (fun g vo v7 v9 vi wr => ∃ k : Nat, k ≤ a.length ∧ vi = .int .i64 k ∧ g = a.length - k ∧ (G (a.take k)).2.length ≤ 140 * k ∧ Fed15 41 w2.heap.size w2 (G (a.take k)) vo wr)
  case atStart => exact ⟨0, Nat.zero_le _, rfl, rfl, by rw [List.take_zero, hG0.out]; simp, by rw [List.take_zero]; exact st0.out⟩
  case round =>
    obtain ⟨k, hk, rfl, rfl, hol, pn', cn', pg', cg', pc', cc', hbox, hrm, hof, hap, hown, hbel⟩ := hrel
    have hTr := Lib.hid (tabs_below15 T2.out hbel)
    by_cases hlt : k < a.length
    · have hlt' : (k : Int) < (a.length : Int) := by omega
      obtain ⟨b, off, rfl, hb, hcell⟩ := ri_at hraW.out (by omega)
      have hc : wr.cell? ⟨b, off + k, none⟩ = some (.int .i64 a[k]) := (hbel.cell hb).trans (hcell k hlt)
      have hx64 := hwa.out a[k] (List.getElem_mem hlt)
      have hfd := hfeed.out (a.take k) a[k] hx64
      have hsn := hG1.out (a.take k) a[k]
      rw [← List.take_succ_eq_append_getElem hlt] at hsn
      obtain ⟨x, hx⟩ : ∃ x, a[k] = x := ⟨_, rfl⟩
      rw [hx] at hc hfd hsn
      have hft := Mch.feed_told (G (a.take k)).1 x
      obtain ⟨q, hq⟩ : ∃ q, Mch.feedM (G (a.take k)).1 x = q := ⟨_, rfl⟩
      rw [hq] at hfd hsn hft
      obtain ⟨Q, hQ⟩ : ∃ Q, G (a.take k) = Q := ⟨_, rfl⟩
      rw [hQ] at hfd hsn hbox hrm hof hap hown hol
      obtain ⟨M, o⟩ := Q
      obtain ⟨q1, q2⟩ := q
      dsimp only at hfd hsn hbox hrm hof hap hown hol hft
      obtain ⟨S, hS⟩ : ∃ S : ByteArray, (⟨M.d.toArray⟩ : ByteArray) = S := ⟨_, rfl⟩
      rw [hS] at hbox hrm hof hap
      unfold cellsM at hbox hrm hof hap
      have hkA : w2.heap.size < wr.heap.size := blk_lt hbox
      obtain ⟨c0, c1, c2, c3, c4, c5, c6, c7, c8⟩ := held9 hbox
      replace hfd := Lib.hid hfd
      replace hsn := Lib.hid hsn
      replace hbox := Lib.hid hbox
      replace hrm := Lib.hid hrm
      replace hof := Lib.hid hof
      replace hap := Lib.hid hap
      replace hown := Lib.hid hown
      replace hbel := Lib.hid hbel
      clear hcell hx hq hQ hS st0
      go_wp2_with fail
      refine (hfd.out _ _ hTr.out hrm.out).mono ?_
      rintro e wc ⟨va', vt, rfl, ra, rt, hoff, hbc⟩
      obtain ⟨qn, dn, qg, dg, qc, dc, rfl⟩ := rm_form ra
      obtain ⟨pt, ct, rfl⟩ := ri_form rt
      unfold cellsM at ra hoff ⊢
      dsimp only at ra rt hoff ⊢
      clear c0 c1 c2 c3 c4 c5 c6 c7 c8
      have hboxc := blk_below hbox.out hbc
      obtain ⟨y0, y1, y2, y3, y4, y5, y6, y7, y8⟩ := held9 hboxc
      have fy0 := blk_thaw hboxc 0
      have fy1 := blk_thaw hboxc 1
      have fy2 := blk_thaw hboxc 2
      have fy3 := blk_thaw hboxc 3
      have fy4 := blk_thaw hboxc 4
      have fy5 := blk_thaw hboxc 5
      have fy6 := blk_thaw hboxc 6
      have fy7 := blk_thaw hboxc 7
      have fy8 := blk_thaw hboxc 8
      have hnew' := blk_set9 hboxc (.int .i64 q1.kind) (.string ⟨q1.d.toArray⟩) (.slice qn q1.n.length dn) (.slice qg q1.g.length dg) (.bool q1.s.on) (.int .i64 q1.s.kind) (.bool q1.s.pict) (.bool q1.s.odd) (.slice qc q1.c.length dc)
      have hsame := same_set9 wc w2.heap.size (.int .i64 q1.kind) (.string ⟨q1.d.toArray⟩) (.slice qn q1.n.length dn) (.slice qg q1.g.length dg) (.bool q1.s.on) (.int .i64 q1.s.kind) (.bool q1.s.pict) (.bool q1.s.odd) (.slice qc q1.c.length dc)
      have hoS := hoff w2.heap.size hkA hof.out
      have ra2 := rm_but ra hsame (fun j e => e ▸ hoS.1)
      have rt2 := ri_src (ri_but rt hsame (fun j e => e ▸ hoS.2))
      have hnot := own_not hown.out (Nat.lt_succ_self w2.heap.size)
      have own2 := ownI_but (ownI_below hown.out hbc) hsame (fun j e h => hnot (by rw [h, e]))
      have hap2 := Lib.hid (fun j e => (hoff j (World.ownsRow.lt hown.out j e).2 (hap.out j e)).1)
      have hbel2 := below_set9 (hbel.out.trans (hbc.mono hbel.out.size)) (Nat.le_refl _) (.int .i64 q1.kind) (.string ⟨q1.d.toArray⟩) (.slice qn q1.n.length dn) (.slice qg q1.g.length dg) (.bool q1.s.on) (.int .i64 q1.s.kind) (.bool q1.s.pict) (.bool q1.s.odd) (.slice qc q1.c.length dc)
      have hsz : w2.heap.size + 1 ≤ (set9 wc w2.heap.size (.int .i64 q1.kind) (.string ⟨q1.d.toArray⟩) (.slice qn q1.n.length dn) (.slice qg q1.g.length dg) (.bool q1.s.on) (.int .i64 q1.s.kind) (.bool q1.s.pict) (.bool q1.s.odd) (.slice qc q1.c.length dc)).heap.size := by rw [set9_size]; exact Nat.le_trans hkA hbc.size
      obtain ⟨W9, hW9⟩ : ∃ W9, set9 wc w2.heap.size (.int .i64 q1.kind) (.string ⟨q1.d.toArray⟩) (.slice qn q1.n.length dn) (.slice qg q1.g.length dg) (.bool q1.s.on) (.int .i64 q1.s.kind) (.bool q1.s.pict) (.bool q1.s.odd) (.slice qc q1.c.length dc) = W9 := ⟨_, rfl⟩
      rw [hW9] at hnew' ra2 rt2 own2 hbel2 hsz
      unfold set9 at hW9
      have h8a := Lib.hid (show o.length + q2.length ≤ maxLen by unfold maxLen; omega)
      have h8b := Lib.hid (show (o.length + q2.length) * 8 ≤ 140737488355328 by omega)
      have hoS1 := Lib.hid hoS.1
      replace hnew' := Lib.hid hnew'
      replace ra2 := Lib.hid ra2
      replace rt2 := Lib.hid rt2
      replace own2 := Lib.hid own2
      replace hbel2 := Lib.hid hbel2
      replace hsz := Lib.hid hsz
      replace hW9 := Lib.hid hW9
      obtain ⟨po, co, rfl⟩ := ri_form (ri_of_own hown.out)
      clear ra rt hoff hbc hboxc hsame hoS hnot hfd hbox hrm hof hap hown hbel hc
      go_upto_region 7 with (fail)
      rw [hW9.out]
      clear hW9 y0 y1 y2 y3 y4 y5 y6 y7 y8 fy0 fy1 fy2 fy3 fy4 fy5 fy6 fy7 fy8
      go_wp2_with (at_builtin; refine wpList_append_src3 rfl _ _ 24 rfl (w2.heap.size + 1) 3 i0 (.int .i64 0) 8 Tryz.underlying24 hi hz0 hz1 hz2 rfl _ _ _ rfl own2.out _ _ rfl rt2.out (oneCellI q2) (by rw [List.length_map]; exact h8a.out) (by rw [List.length_map]; exact h8b.out) hsz.out ?_; intro v5 w5 hown5 hgrow5 hlies5; have o5 := Lib.hid (ownI_of_row (l := o ++ q2) hown5 (by simp) (by simp)); have x5 := Lib.hid (blk_grown hnew'.out hgrow5 (own_not own2.out (Nat.lt_succ_self _))); have r5 := Lib.hid (rm_but ra2.out (same_grown hgrow5) (fun j e => hap2.out j e)); have p5 := Lib.hid (off_lies hlies5 (fun j e => hap2.out j e) ra2.out); have b5 := Lib.hid (below_row hbel2.out hgrow5 (Nat.le_trans (Nat.le_succ _) hsz.out) own2.out (Nat.le_succ _)); clear hown5 hgrow5 hlies5)
      go_roundg (a.length - (k + 1))
      case measure => omega
      case rel => exact ⟨k + 1, by omega, by go_num, rfl, by rw [hsn.out]; simp; omega, by rw [hsn.out]; exact ⟨qn, dn, qg, dg, qc, dc, x5.out, r5.out, hoS1.out, p5.out, o5.out, b5.out⟩⟩
    · obtain rfl : k = a.length := by omega
      have hlt' : decide ((a.length : Int) < (a.length : Int)) = false := by simp
      rw [List.take_length] at hbox hrm hof hap hown hol
      have hend' := fun V W hT' h => hend.out V W hT' h
      have hEE' := hEE.out
      have het' := het.out
      obtain ⟨Q, hQ⟩ : ∃ Q, G a = Q := ⟨_, rfl⟩
      rw [hQ] at hbox hrm hown hol hend' hEE' het'
      obtain ⟨M, o⟩ := Q
      obtain ⟨D, hD⟩ : ∃ D, Mch.endM M = D := ⟨_, rfl⟩
      dsimp only at hbox hrm hown hol hend' hEE' het'
      rw [hD] at hend' hEE' het'
      obtain ⟨d1, d2⟩ := D
      dsimp only at hEE' het'
      unfold cellsM at hbox hrm
      obtain ⟨c0, c1, c2, c3, c4, c5, c6, c7, c8⟩ := held9 hbox
      have own0 := Lib.hid (ownI_mono hown (Nat.le_succ w2.heap.size))
      replace hend' := Lib.hid hend'
      replace hEE' := Lib.hid hEE'
      replace hbox := Lib.hid hbox
      replace hrm := Lib.hid hrm
      replace hbel := Lib.hid hbel
      replace hQ := Lib.hid hQ
      clear hof hap hown hraW
      go_wp2_with fail
      refine (hend'.out _ _ hTr.out hrm.out).mono ?_
      rintro e w3 ⟨ve, vt, rfl, re, rt, hoff, q3⟩
      obtain ⟨qn, dn, qg, dg, qc, dc, rfl⟩ := rm_form re
      obtain ⟨pt, ct, rfl⟩ := ri_form rt
      dsimp only at rt
      unfold cellsM
      have o3 := Lib.hid (ownI_below own0.out q3)
      have s3 := Lib.hid (ri_src rt)
      have b3 := Lib.hid (below_on hbel.out q3)
      clear re rt hoff q3 own0
      go_wp2_with (at_builtin; refine wpList_append_src rfl _ _ 24 rfl w2.heap.size 3 i0 (.int .i64 0) 8 Tryz.underlying24 hi hz0 hz1 hz2 rfl _ _ _ rfl o3.out _ _ rfl s3.out (oneCellI _) (by unfold maxLen; first | (simp; done) | (simp; omega)) (by first | (simp; done) | (simp; omega)) b3.out.size ?_; intro v4 w4 ho4 hg4; have o4 := Lib.hid (ownI_of_row (l := o ++ d2) ho4 (by (try simp); try omega) (by (try simp); try omega)); have b4 := Lib.hid (below_row b3.out hg4 b3.out.size o3.out (Nat.le_refl _)); clear ho4 hg4)
      go_ret
      exact ⟨_, rfl, by rw [← hEE'.out]; exact ri_of_own o4.out, below_on hb2.out b4.out⟩
theorem allC15 : AllC15 := fun k v l w hT hl hv hw _ => all15_any k v l w hT hl hv hw
end Go.Proofs.YtiidjkhkcckmkaaGreatDoor
