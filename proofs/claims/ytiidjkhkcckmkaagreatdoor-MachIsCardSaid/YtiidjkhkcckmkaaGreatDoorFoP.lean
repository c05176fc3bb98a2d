/- Texts that stand together. -/
import Derived.Test.YtiidjkhkcckmkaaGreatDoorMatP
import Derived.Test.YtiidjkhkcckmkaaGreatDoorBasP
import Derived.Test.YtiidjkhkcckmkaaGreatDoorKP
import Derived.Test.YtiidjkhkcckmkaaGreatDoorCnP
import Derived.Test.YtiidjkhkcckmkaaGreatDoorPrA4
import Derived.Test.YtiidjkhkcckmkaaGreatDoorCaP
import Derived.Test.YtiidjkhkcckmkaaGreatDoorMthP
import Derived.Deep.RegionHeld3
import Derived.WalkKit
import Derived.Laws.CopyOwn
import Derived.Laws.MakeOwn
import Derived.Deep.RegionHeld
import Derived.OrdersHeld
import Derived.Test.YtiidjkhkcckmkaaGreatDoorNoQ
/- Layer 10: a slice of numbers in a variable that a literal captures; Left's literal. -/
namespace Go.Proofs.YtiidjkhkcckmkaaGreatDoor
set_option linter.unusedSimpArgs false
set_option linter.unusedVariables false
open Go.RowKit Go.Lib
theorem own_offT {B b : Nat} {v : Value} {l : List Int} {w : World} {cs : Array Value} {T : TypeId} (hT : T ≠ 3) (h : OwnI B v l w) (hb : Blk w b cs T) : v.ownBlock ≠ some b := by
  intro e
  rcases h.2 with ⟨rfl, _⟩ | ⟨g, cap, cur, rfl, _, hg, _⟩
  · cases e
  · cases e
    unfold Blk at hb
    rw [hb] at hg
    injection hg with hg
    injection hg with _ hg
    exact hT hg
theorem int_ne_ints : 24 ≠ 3 := by decide
end Go.Proofs.YtiidjkhkcckmkaaGreatDoor

/- Layer 10: cut, its literal over Left's, Left. -/
namespace Go.Proofs.YtiidjkhkcckmkaaGreatDoor
set_option linter.unusedSimpArgs false
set_option linter.unusedVariables false
open Go.RowKit Go.Lib
theorem lies_after {v v' : Value} {w w2 : World} (hb : Below w.heap.size w w2) (h : Lies v' v w2) : Lies v' v w :=
  h.imp id fun ⟨j, h1, h2⟩ => ⟨j, h1, Nat.le_trans hb.size h2⟩
end Go.Proofs.YtiidjkhkcckmkaaGreatDoor

/- Layer 10: the code's Left. -/
namespace Go.Proofs.YtiidjkhkcckmkaaGreatDoor
set_option linter.unusedSimpArgs false
set_option linter.unusedVariables false
open Go.RowKit Go.Lib
theorem left_snoc10 (m : List Int) (k : Nat) (hk : k < m.length) : (m.take k).filter (fun r => !Prp.drpB r) ++ (if Prp.drpB m[k] = true then [] else [m[k]]) = (m.take (k + 1)).filter (fun r => !Prp.drpB r) := by
  rw [List.take_succ_eq_append_getElem hk, List.filter_append]
  congr 1
  cases h : Prp.drpB m[k] <;> simp [h]
theorem func_ne_int : 124 ≠ 3 := by decide
end Go.Proofs.YtiidjkhkcckmkaaGreatDoor

/- Layer 10: the code's copied. -/
namespace Go.Proofs.YtiidjkhkcckmkaaGreatDoor
set_option linter.unusedSimpArgs false
set_option linter.unusedVariables false
open Go.RowKit Go.Lib
set_option maxHeartbeats 3200000 in
set_option maxRecDepth 100000 in
theorem copied10_any (v : Value) (l : List Int) (w : World) (hl : l.length ≤ 10000) (hv : RI w v l) : Calls Tryz.prog 94 #[.agg #[v]] w fun e w' => ∃ va, e = .returned (.agg #[va]) ∧ OwnI w.heap.size va (wellI l) w' ∧ Below w.heap.size w w' := by
  obtain ⟨p, cap, rfl⟩ := ri_form hv
  have hbox0 := blk_new w #[.slice p l.length cap] 36
  have hbox := blk_alloc hbox0 (.cells #[.slice none 0 0] 36)
  have hres := blk_new (w.alloc (.cells #[.slice p l.length cap] 36)) #[.slice none 0 0] 36
  rw [show (w.alloc (.cells #[.slice p l.length cap] 36)).heap.size = w.heap.size + 1 by simp] at hres
  have hb0 : Below w.heap.size w ((w.alloc (.cells #[.slice p l.length cap] 36)).alloc (.cells #[.slice none 0 0] 36)) := (below_new w _).alloc (by simp) _
  obtain ⟨W, hW⟩ : ∃ W, (w.alloc (.cells #[.slice p l.length cap] 36)).alloc (.cells #[.slice none 0 0] 36) = W := ⟨_, rfl⟩
  have hvW := ri_below hv hb0
  rw [hW] at hbox hres hb0 hvW
  have hsane := saneC9 (.slice p l.length cap) l W hl hvW
  unfold wellI
  replace hbox := Lib.hid hbox
  replace hres := Lib.hid hres
  replace hb0 := Lib.hid hb0
  replace hvW := Lib.hid hvW
  replace hW := Lib.hid hW
  clear hv hbox0
  cases hS : Nor.saneB l with
  | true =>
    rw [if_pos rfl]
    rw [hS] at hsane
    replace hsane := Lib.hid hsane
    clear hS
    go_enter Tryz.func94, Tryz.ntmps94
    go_upto_region 1 with (fail)
    rw [hW.out]
    have b0 := blk_cell hbox.out 0 _ rfl
    go_wp2_with fail
    refine hsane.out.mono ?_
    rintro e w2 ⟨rfl, hb2⟩
    have hbx2 := blk_below hbox.out hb2
    have c2 := blk_cell hbx2 0 _ rfl
    have hcl := Lib.hid (clone_any (.slice p l.length cap) l w2 (by omega) (ri_below hvW.out hb2))
    have hr2 := Lib.hid (blk_below hres.out hb2)
    replace hb2 := Lib.hid (hb0.out.trans (hb2.mono hb0.out.size))
    clear b0 hbx2
    go_wp2_with fail
    refine hcl.out.mono ?_
    rintro e w3 ⟨v3, rfl, ho3, hb3⟩
    have hr3 := blk_below hr2.out hb3
    have c3 := blk_cell hr3 0 _ rfl
    have f3 := blk_thaw hr3 0
    obtain ⟨p3, c3', rfl⟩ := ri_form (ri_of_own ho3)
    have hlt : w.heap.size + 1 < w2.heap.size := blk_lt hr2.out
    have hn3 := Lib.hid (blk_set (u := .slice p3 l.length c3') hr3)
    have ho4 := Lib.hid (ownI_mono (ownI_set ho3 ⟨w.heap.size + 1, 0, none⟩ (.slice p3 l.length c3') (ownI_ne ho3 hlt)) (show w.heap.size ≤ w2.heap.size by omega))
    have hb4 := Lib.hid ((below_on hb2.out hb3).setCell (p := ⟨w.heap.size + 1, 0, none⟩) (Nat.le_succ _) (.slice p3 l.length c3'))
    replace hr3 := Lib.hid hr3
    clear c2 hb3 ho3
    go_wp2_with fail
    have d4 := blk_cell hn3.out 0 _ rfl
    refine bodyPost_ret (v := .agg #[.slice p3 l.length c3']) ?_ rfl ⟨_, rfl, ho4.out, hb4.out⟩
    simp [results, Tryz.results94, go_sem, d4]
  | false =>
    rw [if_neg (by simp)]
    rw [hS] at hsane
    replace hsane := Lib.hid hsane
    clear hS
    go_enter Tryz.func94, Tryz.ntmps94
    go_upto_region 1 with (fail)
    rw [hW.out]
    have b0 := blk_cell hbox.out 0 _ rfl
    go_wp2_with fail
    refine hsane.out.mono ?_
    rintro e w2 ⟨rfl, hb2⟩
    have hr2 := blk_below hres.out hb2
    have c2 := blk_cell hr2 0 _ rfl
    have f2 := blk_thaw hr2 0
    have hn2 := Lib.hid (blk_set (u := .slice none 0 0) hr2)
    have hb4 := Lib.hid ((hb0.out.trans (hb2.mono hb0.out.size)).setCell (p := ⟨w.heap.size + 1, 0, none⟩) (Nat.le_succ _) (.slice none 0 0))
    replace hr2 := Lib.hid hr2
    clear b0 hb2
    go_wp2_with fail
    have d4 := blk_cell hn2.out 0 _ rfl
    refine bodyPost_ret (v := .agg #[.slice none 0 0]) ?_ rfl ⟨_, rfl, ownI_nil _ _, hb4.out⟩
    simp [results, Tryz.results94, go_sem, d4]
end Go.Proofs.YtiidjkhkcckmkaaGreatDoor

/- Layer 10: Feed's literal, and cut's over it. -/
namespace Go.Proofs.YtiidjkhkcckmkaaGreatDoor
set_option linter.unusedSimpArgs false
set_option linter.unusedVariables false
open Go.RowKit Go.Lib
theorem state_ne_int : 36 ≠ 3 := by decide
def Only2 (k0 k1 : Nat) (v : Value) (w w' : World) : Prop := Below 0 w w' ∧ ∀ j, j < w.heap.size → j ≠ k0 → j ≠ k1 → some j ≠ v.ownBlock → w'.heap[j]? = w.heap[j]?
theorem only2_below {B k0 k1 : Nat} {v : Value} {l : List Int} {w0 w w1 : World} (h : Only2 k0 k1 v w w1) (ho : OwnI B v l w) (h0 : B ≤ k0) (h1 : B ≤ k1) (hB : B ≤ w.heap.size) (hb : Below B w0 w) : Below B w0 w1 :=
  hb.trans ⟨h.1.os, h.1.tape, h.1.output, h.1.size, fun j hj => h.2 j (by omega) (by omega) (by omega) (own_not ho hj)⟩
theorem only2_blk {B k0 k1 j : Nat} {v : Value} {l : List Int} {cs : Array Value} {T : TypeId} {w w1 : World} (h : Only2 k0 k1 v w w1) (hT : T ≠ 3) (ho : OwnI B v l w) (hb : Blk w j cs T) (hj : j ≠ k0) (hj1 : j ≠ k1) : Blk w1 j cs T := by
  unfold Blk
  rw [h.2 j (blk_lt hb) hj hj1 (fun e => own_offT hT ho hb e.symm)]
  exact hb
theorem only2_own {B k0 k1 : Nat} {u v : Value} {m : List Int} {cs cs1 : Array Value} {T T1 : TypeId} {w w1 : World} (h : Only2 k0 k1 v w w1) (hu : OwnI B u m w) (hT : T ≠ 3) (hT1 : T1 ≠ 3) (hk : Blk w k0 cs T) (hk1 : Blk w k1 cs1 T1) (hne : u.ownBlock = none ∨ u.ownBlock ≠ v.ownBlock) : OwnI B u m w1 := by
  refine ⟨hu.1, ?_⟩
  have hoff := own_offT hT hu hk
  have hoff1 := own_offT hT1 hu hk1
  rcases hu.2 with hn | ⟨g, cap, cur, rfl, hg, hh, r⟩
  · exact .inl hn
  · refine .inr ⟨g, cap, cur, rfl, hg, ?_, r⟩
    rw [h.2 g (Array.getElem?_eq_some_iff.1 hh).1 (fun e => hoff (by rw [← e]; rfl)) (fun e => hoff1 (by rw [← e]; rfl)) (by simpa [Value.ownBlock] using hne)]
    exact hh
theorem only2_after {k0 k1 : Nat} {v : Value} {w w2 w3 : World} (hb : Below w.heap.size w w2) (h : Only2 k0 k1 v w2 w3) : Only2 k0 k1 v w w3 :=
  ⟨(hb.mono (Nat.zero_le _)).trans h.1, fun j hj h1 h2 h3 => (h.2 j (Nat.lt_of_lt_of_le hj hb.size) h1 h2 h3).trans (hb.block j hj)⟩
theorem only2_self {k0 k1 : Nat} {v : Value} {w w2 : World} (hb : Below w.heap.size w w2) : Only2 k0 k1 v w w2 := ⟨hb.mono (Nat.zero_le _), fun j hj _ _ _ => hb.block j hj⟩
def PutF (B k0 k1 : Nat) (q : List Int × List Int) (vt : Value) (w w' : World) : Prop := ∃ va vb, Blk w' k0 #[va] 36 ∧ Blk w' k1 #[vb] 24 ∧ OwnI B va q.1 w' ∧ OwnI B vb q.2 w' ∧ Lies vb vt w ∧ Only2 k0 k1 vt w w'
theorem putF_after {B k0 k1 : Nat} {q : List Int × List Int} {vt : Value} {w w2 w3 : World} (hb : Below w.heap.size w w2) (h : PutF B k0 k1 q vt w2 w3) : PutF B k0 k1 q vt w w3 := by
  obtain ⟨va, vb, h1, h2, h3, h4, h5, h6⟩ := h
  exact ⟨va, vb, h1, h2, h3, h4, lies_after hb h5, only2_after hb h6⟩
set_option maxHeartbeats 3200000 in
set_option maxRecDepth 100000 in
theorem feedPut_any (B k0 k1 : Nat) (l T : List Int) (r : Int) (vs vt : Value) (w : World) (hl : l.length ≤ 1000) (ht : T.length ≤ 1000000) (h0 : Blk w k0 #[vs] 36) (h1 : Blk w k1 #[vt] 24) (hne : k0 ≠ k1) (hB0 : B ≤ k0) (hB1 : B ≤ k1) (hv : RI w vs l) (ho : OwnI B vt T w) :
    Calls Tryz.prog 96 #[.int .i64 r, .pointer (some ⟨k0, 0, none⟩), .pointer (some ⟨k1, 0, none⟩)] w fun e w' => e = .returned (.tuple #[]) ∧ PutF B k0 k1 ((Nor.feedI l r).1, T ++ (Nor.feedI l r).2) vt w w' := by
  obtain ⟨i0, hi, hz0, hz1, hz2⟩ := info_parts info_i
  have b0 := blk_cell h0 0 _ rfl
  have hk0 := blk_lt h0
  have hk1 := blk_lt h1
  have hfeed := feedC9 vs l r w (by omega) hv
  have hft := Nor.feed_told l r
  obtain ⟨q, hq⟩ : ∃ q, Nor.feedI l r = q := ⟨_, rfl⟩
  rw [hq] at hfeed hft ⊢
  obtain ⟨q1, q2⟩ := q
  dsimp only at hft ⊢
  obtain ⟨ps, cs, rfl⟩ := ri_form hv
  obtain ⟨pt, ct, rfl⟩ := ri_form (ri_of_own ho)
  obtain ⟨m, hm⟩ : ∃ m, T ++ q2 = m := ⟨_, rfl⟩
  rw [hm]
  have h8a : T.length + q2.length ≤ maxLen := by unfold maxLen; omega
  have h8b : (T.length + q2.length) * 8 ≤ 140737488355328 := by omega
  replace h8a := Lib.hid h8a
  replace h8b := Lib.hid h8b
  replace hm := Lib.hid hm
  replace hfeed := Lib.hid hfeed
  replace h0 := Lib.hid h0
  replace h1 := Lib.hid h1
  replace ho := Lib.hid ho
  replace hne := Lib.hid hne
  clear hv hq hft
  go_enter Tryz.func96, Tryz.ntmps96
  go_wp2_with fail
  refine hfeed.out.mono ?_
  rintro e w2 ⟨va, vb, rfl, hva, hvb, hb2⟩
  obtain ⟨pa, ca, rfl⟩ := ri_form (ri_of_own hva)
  obtain ⟨pb, cb, rfl⟩ := ri_form (ri_of_own hvb)
  have h02 := blk_below h0.out hb2
  have h12 := blk_below h1.out hb2
  have ho2 := ownI_below ho.out hb2
  have c0 := blk_cell h02 0 _ rfl
  have f0 := blk_thaw h02 0
  have h03 := Lib.hid (blk_set (u := .slice pa q1.length ca) h02)
  have h13 := blk_other (j := k0) (u := .slice pa q1.length ca) h12 hne.out
  have c1 := blk_cell h13 0 _ rfl
  replace h13 := Lib.hid h13
  have hva3 := Lib.hid (ownI_set hva ⟨k0, 0, none⟩ (.slice pa q1.length ca) (.inr (own_offT state_ne_int hva h02)))
  have ht3 := Lib.hid (ri_src (ri_store (ri_of_own hvb) h02 (no_slice _ _ _) (.slice pa q1.length ca)))
  have ho3 := Lib.hid (ownI_set ho2 ⟨k0, 0, none⟩ (.slice pa q1.length ca) (.inr (own_offT state_ne_int ho2 h02)))
  have hap := Lib.hid (own_apart hva ho.out)
  have hsz := Lib.hid (show B ≤ (w2.setCell ⟨k0, 0, none⟩ (.slice pa q1.length ca)).heap.size by have := hb2.size; simp; omega)
  have hBw := Lib.hid (show B ≤ w.heap.size by omega)
  replace h02 := Lib.hid h02
  replace hb2 := Lib.hid hb2
  clear h12 ho2 hva hvb
  go_wp2_with (at_builtin; refine wpList_append_src3 rfl _ _ 24 rfl B 3 i0 (.int .i64 0) 8 Tryz.underlying24 hi hz0 hz1 hz2 rfl _ _ _ rfl ho3.out _ _ rfl ht3.out (oneCellI q2) (by rw [List.length_map]; exact h8a.out) (by rw [List.length_map]; exact h8b.out) hsz.out ?_; intro v5 w5 hown5 hgrow5 hlies5; have o5 := Lib.hid (ownI_of_row (l := T ++ q2) hown5 (by simp) (by simp)); rw [hm.out] at o5; obtain ⟨p5, q5, rfl⟩ := ri_form (ri_of_own o5.out); have x5 := Lib.hid (blk_grown h13.out hgrow5 (fun e => own_offT int_ne_ints ho3.out h13.out e.symm)); have y5 := Lib.hid (blk_grown h03.out hgrow5 (fun e => own_offT state_ne_int ho3.out h03.out e.symm)); have c5 := blk_cell x5.out 0 _ rfl; have f5 := blk_thaw x5.out 0; have a5 := Lib.hid (World.ownsRow.kept hva3.out hgrow5 hap.out); replace hgrow5 := Lib.hid hgrow5; replace hlies5 := Lib.hid hlies5; clear hown5)
  go_wp2_with fail
  go_end0
  have a5' : OwnI w.heap.size (.slice pa q1.length ca) q1 w5 := a5.out
  refine ⟨rfl, .slice pa q1.length ca, .slice p5 m.length q5, blk_other (j := k1) y5.out hne.out.symm, blk_set x5.out, ownI_mono (ownI_set a5' _ _ (.inr (own_offT int_ne_ints a5' x5.out))) hBw.out, ownI_set o5.out _ _ (.inr (own_offT int_ne_ints o5.out x5.out)), ?_, ?_, ?_⟩
  · rcases hlies5.out with h | ⟨j, h1, h2⟩
    · exact .inl h
    · exact .inr ⟨j, h1, Nat.le_trans hb2.out.size (by simpa using h2)⟩
  · have hg := hgrow5.out
    have hb := hb2.out
    exact ⟨hg.os.trans hb.os, hg.tape.trans hb.tape, hg.output.trans hb.output, by have h1 := hg.size; have h2 := hb.size; simp at h1 ⊢; omega, fun j hj => by omega⟩
  · intro j hj hj0 hj1 hjv
    rw [Below.heap_setCell _ _ _ _ (by exact hj1), hgrow5.out.block j (by have := hb2.out.size; simp; omega) hjv, Below.heap_setCell _ _ _ _ (by exact hj0), hb2.out.block j hj]
set_option maxHeartbeats 1600000 in
set_option maxRecDepth 100000 in
theorem feedCut_any (k0 k1 : Nat) (w : World) : Calls Tryz.prog 95 #[.func (.func 96) #[] #[.pointer (some ⟨k0, 0, none⟩), .pointer (some ⟨k1, 0, none⟩)]] w fun e w' =>
    e = .returned (.func (.func 136) #[] #[.pointer (some ⟨w.heap.size, 0, none⟩)]) ∧ w' = w.alloc (.cells #[.func (.func 96) #[] #[.pointer (some ⟨k0, 0, none⟩), .pointer (some ⟨k1, 0, none⟩)]] 124) := by
  have hmf : ∀ (fn : Fn) (first cap : Array Value) (w : World), (Instr.makeFunc fn first cap).run Tryz.prog w = .ok (.func fn first cap) w := fun _ _ _ _ => rfl
  go_enter Tryz.func95, Tryz.ntmps95
  go_wp2_with fail
  go_ret
  exact ⟨rfl, rfl⟩
set_option maxHeartbeats 1600000 in
set_option maxRecDepth 100000 in
theorem feedTake_any (B C k0 k1 : Nat) (l T : List Int) (r : Int) (vs vt : Value) (w : World) (hl : l.length ≤ 1000) (ht : T.length ≤ 1000000) (h0 : Blk w k0 #[vs] 36) (h1 : Blk w k1 #[vt] 24) (hne : k0 ≠ k1) (hB0 : B ≤ k0) (hB1 : B ≤ k1) (hv : OwnI B vs l w) (ho : OwnI B vt T w)
    (hC : Blk w C #[.func (.func 96) #[] #[.pointer (some ⟨k0, 0, none⟩), .pointer (some ⟨k1, 0, none⟩)]] 124) :
    Calls Tryz.prog 136 #[.int .i64 r, .pointer (some ⟨C, 0, none⟩)] w fun e w' => e = .returned (.tuple #[]) ∧ PutF B k0 k1 ((Nor.feedsI l (if Prp.drpB r = true then [] else [r])).1, T ++ (Nor.feedsI l (if Prp.drpB r = true then [] else [r])).2) vt w w' := by
  have hdx := drops_any r
  cases hdb : Prp.drpB r with
  | true =>
    rw [hdb] at hdx
    rw [if_pos rfl]
    simp only [Nor.feedsI, List.append_nil]
    replace hdx := Lib.hid hdx
    replace h0 := Lib.hid h0
    replace h1 := Lib.hid h1
    replace hv := Lib.hid hv
    replace ho := Lib.hid ho
    replace hC := Lib.hid hC
    clear hdb
    go_enter Tryz.func136, Tryz.ntmps136
    go_wp2_with fail
    refine (hdx.out _).mono ?_
    rintro e w2 ⟨rfl, hb2⟩
    replace hb2 := Lib.hid hb2
    go_wp2_with fail
    go_end0
    exact ⟨rfl, vs, vt, blk_below h0.out hb2.out, blk_below h1.out hb2.out, ownI_below hv.out hb2.out, ownI_below ho.out hb2.out, .inl rfl, only2_self hb2.out⟩
  | false =>
    rw [hdb] at hdx
    rw [if_neg (by simp)]
    have hone : Nor.feedsI l [r] = Nor.feedI l r := by simp [Nor.feedsI]
    rw [hone]
    replace hdx := Lib.hid hdx
    replace h0 := Lib.hid h0
    replace h1 := Lib.hid h1
    replace hv := Lib.hid hv
    replace ho := Lib.hid ho
    replace hC := Lib.hid hC
    clear hdb hone
    go_enter Tryz.func136, Tryz.ntmps136
    go_wp2_with fail
    refine (hdx.out _).mono ?_
    rintro e w2 ⟨rfl, hb2⟩
    have c2 := blk_cell (blk_below hC.out hb2) 0 _ rfl
    have hput := Lib.hid (feedPut_any B k0 k1 l T r vs vt w2 hl ht (blk_below h0.out hb2) (blk_below h1.out hb2) hne hB0 hB1 (ri_below (ri_of_own hv.out) hb2) (ownI_below ho.out hb2))
    replace hb2 := Lib.hid hb2
    go_wp2_with fail
    refine hput.out.mono ?_
    rintro e w3 ⟨rfl, hp3⟩
    replace hp3 := Lib.hid hp3
    go_wp2_with fail
    go_end0
    exact ⟨rfl, putF_after hb2.out hp3.out⟩
end Go.Proofs.YtiidjkhkcckmkaaGreatDoor

/- Layer 10: the code's Feed. -/
namespace Go.Proofs.YtiidjkhkcckmkaaGreatDoor
set_option linter.unusedSimpArgs false
set_option linter.unusedVariables false
open Go.RowKit Go.Lib
theorem lens10 {l : List Int} (h : Nor.Kept l) (a : List Int) : (Nor.feedsI l a).1.length ≤ 31 ∧ (Nor.feedsI l a).2.length ≤ 31 + 8 * a.length := by
  rw [Nor.feeds_run h]
  have h1 := Nor.kept_len (Nor.kept_run h (Nfk.madeI a))
  have h2 := Nor.run_sum l (Nfk.madeI a)
  have h3 := Nor.kept_len h
  have h4 := Nor.made_len a
  omega
theorem feeds_both (l a b : List Int) (t : List Int) : (Nor.feedsI (Nor.feedsI l a).1 b).1 = (Nor.feedsI l (a ++ b)).1 ∧ t ++ (Nor.feedsI l a).2 ++ (Nor.feedsI (Nor.feedsI l a).1 b).2 = t ++ (Nor.feedsI l (a ++ b)).2 := by
  rw [Nor.feeds_app]
  exact ⟨rfl, by rw [List.append_assoc]⟩
theorem set22 {w : World} {a : Addr} {b c : Nat} {x y u : Value} (hb : a.block ≠ b) (hc : a.block ≠ c) (h : w.cell? ⟨b, 0, none⟩ = some x ∧ w.cell? ⟨c, 0, none⟩ = some y) : (w.setCell a u).cell? ⟨b, 0, none⟩ = some x ∧ (w.setCell a u).cell? ⟨c, 0, none⟩ = some y := by
  constructor
  · rw [World.cell?_setCell_other]
    · exact h.1
    · intro e; exact hb (congrArg Addr.block e)
  · rw [World.cell?_setCell_other]
    · exact h.2
    · intro e; exact hc (congrArg Addr.block e)
abbrev dropsI (m : List Int) : List Int := m.filter (fun r => !Prp.drpB r)
def Fed10C (B k0 kR k1 C k : Nat) (LL : List Int) (vD : Value) (m : List Int) (B1 : Nat) (w wr : World) : Prop :=
  ∃ vs vt, Blk wr k0 #[vs] 36 ∧ Blk wr k1 #[vt] 24 ∧ Blk wr kR #[.slice none 0 0] 36 ∧ OwnI B vs (Nor.feedsI LL (dropsI (m.take k))).1 wr ∧ OwnI B vt (Nor.feedsI LL (dropsI (m.take k))).2 wr ∧ OwnI B1 vD m wr ∧ (vD.ownBlock = none ∨ vD.ownBlock ≠ vt.ownBlock)
    ∧ Blk wr C #[.func (.func 96) #[] #[.pointer (some ⟨k0, 0, none⟩), .pointer (some ⟨k1, 0, none⟩)]] 124 ∧ Below B w wr
theorem fed_next {B k0 kR k1 C k : Nat} {LL : List Int} {vD vt : Value} {m : List Int} {B1 : Nat} {w wr w3 : World} {cs0 cs1 : Array Value} (hk : k < m.length) (hB0 : B ≤ k0) (hB1 : B ≤ k1) (hR0 : kR ≠ k0) (hR1 : kR ≠ k1) (hC0 : C ≠ k0) (hC1 : C ≠ k1)
    (h0 : Blk wr k0 cs0 36) (h1 : Blk wr k1 cs1 24) (hR : Blk wr kR #[.slice none 0 0] 36) (ht : OwnI B vt (Nor.feedsI LL (dropsI (m.take k))).2 wr) (hD : OwnI B1 vD m wr) (hap : vD.ownBlock = none ∨ vD.ownBlock ≠ vt.ownBlock)
    (hC : Blk wr C #[.func (.func 96) #[] #[.pointer (some ⟨k0, 0, none⟩), .pointer (some ⟨k1, 0, none⟩)]] 124) (hb : Below B w wr)
    (hp : PutF B k0 k1 ((Nor.feedsI (Nor.feedsI LL (dropsI (m.take k))).1 (if Prp.drpB m[k] = true then [] else [m[k]])).1, (Nor.feedsI LL (dropsI (m.take k))).2 ++ (Nor.feedsI (Nor.feedsI LL (dropsI (m.take k))).1 (if Prp.drpB m[k] = true then [] else [m[k]])).2) vt wr w3) : Fed10C B k0 kR k1 C (k + 1) LL vD m B1 w w3 := by
  obtain ⟨va, vb, g1, g2, g3, g4, g5, g6⟩ := hp
  have hkw := blk_lt h0
  have hboth := feeds_both LL (dropsI (m.take k)) (if Prp.drpB m[k] = true then [] else [m[k]]) []
  rw [left_snoc10 m k hk] at hboth
  simp only [List.nil_append] at hboth
  exact ⟨va, vb, g1, g2, only2_blk g6 state_ne_int ht hR hR0 hR1, by rw [← hboth.1]; exact g3, by rw [← hboth.2]; exact g4, only2_own g6 hD state_ne_int int_ne_ints h0 h1 hap, lies_apart hD hap g5, only2_blk g6 func_ne_int ht hC hC0 hC1, only2_below g6 ht hB0 hB1 (by omega) hb⟩
theorem feed10_well (l : List Int) (r : Int) : Fol.feedI l r = Nor.feedsI (wellI l) (dropsI (Cas.foldI r)) := by
  have h : Fol.leftI [r] = dropsI (Cas.foldI r) := by simp [Fol.leftI, Cas.allI]
  unfold Fol.feedI wellI
  rw [h]
set_option maxHeartbeats 6400000 in
set_option maxRecDepth 100000 in
theorem feed10_any (v : Value) (l : List Int) (r : Int) (w : World) (hl : l.length ≤ 10000) (hv : RI w v l) (hr : -9223372036854775808 ≤ r ∧ r ≤ 9223372036854775807) : Calls Tryz.prog 59 #[.agg #[v], .int .i64 r] w (Fed (Fol.feedI l r) w) := by
  have hmf : ∀ (fn : Fn) (first cap : Array Value) (w : World), (Instr.makeFunc fn first cap).run Tryz.prog w = .ok (.func fn first cap) w := fun _ _ _ _ => rfl
  rw [feed10_well]
  obtain ⟨p, cap, rfl⟩ := ri_form hv
  have hwk := well_kept l
  have hco := fun W h => copied10_any (.slice p l.length cap) l W hl h
  obtain ⟨L, hL⟩ : ∃ L, wellI l = L := ⟨_, rfl⟩
  rw [hL] at hwk hco ⊢
  have hml := (Cas.fold_len r).2
  have hfold := fun W => fold_any r W hr.1 hr.2
  obtain ⟨m, hm⟩ : ∃ m, Cas.foldI r = m := ⟨_, rfl⟩
  rw [hm] at hml hfold ⊢
  have hlens := fun a => lens10 hwk a
  obtain ⟨P, hP⟩ : ∃ P, Nor.feedsI L (dropsI m) = P := ⟨_, rfl⟩
  rw [hP]
  obtain ⟨P1, P2⟩ := P
  replace hP := Lib.hid hP
  -- the world behind the variables
  have hs1 : (w.alloc (.cells #[.slice p l.length cap] 36)).heap.size = w.heap.size + 1 := by simp
  have hs2 : ((w.alloc (.cells #[.slice p l.length cap] 36)).alloc (.cells #[.slice none 0 0] 36)).heap.size = w.heap.size + 2 := by simp
  have x0 := blk_alloc (blk_alloc (blk_new w #[.slice p l.length cap] 36) (.cells #[.slice none 0 0] 36)) (.cells #[.slice none 0 0] 24)
  have xR := blk_new (w.alloc (.cells #[.slice p l.length cap] 36)) #[.slice none 0 0] 36
  rw [hs1] at xR
  replace xR := blk_alloc xR (.cells #[.slice none 0 0] 24)
  have x1 := blk_new ((w.alloc (.cells #[.slice p l.length cap] 36)).alloc (.cells #[.slice none 0 0] 36)) #[.slice none 0 0] 24
  rw [hs2] at x1
  have hb1 := ((below_new w (.cells #[.slice p l.length cap] 36)).alloc (by simp) (.cells #[.slice none 0 0] 36)).alloc (by simp; omega) (.cells #[.slice none 0 0] 24)
  have hs3 : (((w.alloc (.cells #[.slice p l.length cap] 36)).alloc (.cells #[.slice none 0 0] 36)).alloc (.cells #[.slice none 0 0] 24)).heap.size = w.heap.size + 3 := by simp
  obtain ⟨W, hW⟩ : ∃ W, ((w.alloc (.cells #[.slice p l.length cap] 36)).alloc (.cells #[.slice none 0 0] 36)).alloc (.cells #[.slice none 0 0] 24) = W := ⟨_, rfl⟩
  rw [hW] at x0 xR x1 hb1 hs3
  have hcoW := Lib.hid (hco W (ri_below hv hb1))
  replace x0 := Lib.hid x0
  replace x1 := Lib.hid x1
  replace xR := Lib.hid xR
  replace hb1 := Lib.hid hb1
  replace hW := Lib.hid hW
  replace hs3 := Lib.hid hs3
  replace hfold := Lib.hid hfold
  replace hlens := Lib.hid hlens
  clear hv hL hm hs1 hs2 hco hwk
  go_enter Tryz.func59, Tryz.ntmps59
  go_upto_region 2 with (fail)
  rw [hW.out]
  have b0 := blk_cell x0.out 0 _ rfl
  go_wp2_with fail
  refine hcoW.out.mono ?_
  rintro e w2 ⟨va, rfl, ho2, hb2⟩
  obtain ⟨pa, ca, rfl⟩ := ri_form (ri_of_own ho2)
  have x02 := blk_below x0.out hb2
  have c2 := blk_cell x02 0 _ rfl
  have f2 := blk_thaw x02 0
  have hz2 : w.heap.size + 3 ≤ w2.heap.size := by have := hb2.size; rw [hs3.out] at this; exact this
  have y0 := blk_set (u := .slice pa L.length ca) x02
  have y1 := blk_other (j := w.heap.size) (u := .slice pa L.length ca) (blk_below x1.out hb2) (by omega)
  have yR := blk_other (j := w.heap.size) (u := .slice pa L.length ca) (blk_below xR.out hb2) (by omega)
  have o3 := ownI_mono (B := w.heap.size) (ownI_set ho2 ⟨w.heap.size, 0, none⟩ (.slice pa L.length ca) (.inr (own_offT state_ne_int ho2 x02))) (by rw [hs3.out]; omega)
  have hb3 := (below_on hb1.out hb2).setCell (p := ⟨w.heap.size, 0, none⟩) (Nat.le_refl _) (.slice pa L.length ca)
  have hz3 : w.heap.size + 3 ≤ (w2.setCell ⟨w.heap.size, 0, none⟩ (.slice pa L.length ca)).heap.size := by simp; exact hz2
  clear b0 ho2 hb2
  replace y0 := Lib.hid y0
  replace y1 := Lib.hid y1
  replace yR := Lib.hid yR
  replace o3 := Lib.hid o3
  replace hb3 := Lib.hid hb3
  replace hz3 := Lib.hid hz3
  replace hz2 := Lib.hid hz2
  replace x02 := Lib.hid x02
  go_upto_region 3 with (fail)
  generalize hwq : w2.setCell ⟨w.heap.size, 0, none⟩ (.slice pa L.length ca) = V at *
  have hcut := feedCut_any w.heap.size (w.heap.size + 2) V
  have zC := blk_new V #[.func (.func 96) #[] #[.pointer (some ⟨w.heap.size, 0, none⟩), .pointer (some ⟨w.heap.size + 2, 0, none⟩)]] 124
  have z0 := Lib.hid (blk_alloc y0.out (.cells #[.func (.func 96) #[] #[.pointer (some ⟨w.heap.size, 0, none⟩), .pointer (some ⟨w.heap.size + 2, 0, none⟩)]] 124))
  have z1 := Lib.hid (blk_alloc y1.out (.cells #[.func (.func 96) #[] #[.pointer (some ⟨w.heap.size, 0, none⟩), .pointer (some ⟨w.heap.size + 2, 0, none⟩)]] 124))
  have zR := Lib.hid (blk_alloc yR.out (.cells #[.func (.func 96) #[] #[.pointer (some ⟨w.heap.size, 0, none⟩), .pointer (some ⟨w.heap.size + 2, 0, none⟩)]] 124))
  have o4 := Lib.hid (ownI_alloc o3.out (.cells #[.func (.func 96) #[] #[.pointer (some ⟨w.heap.size, 0, none⟩), .pointer (some ⟨w.heap.size + 2, 0, none⟩)]] 124))
  have hb4 := Lib.hid (hb3.out.alloc hb3.out.size (.cells #[.func (.func 96) #[] #[.pointer (some ⟨w.heap.size, 0, none⟩), .pointer (some ⟨w.heap.size + 2, 0, none⟩)]] 124))
  obtain ⟨U, hU⟩ : ∃ U, V.alloc (.cells #[.func (.func 96) #[] #[.pointer (some ⟨w.heap.size, 0, none⟩), .pointer (some ⟨w.heap.size + 2, 0, none⟩)]] 124) = U := ⟨_, rfl⟩
  rw [hU] at zC z0 z1 zR o4 hb4
  replace hcut := Lib.hid hcut
  replace zC := Lib.hid zC
  replace hU := Lib.hid hU
  replace hwq := Lib.hid hwq
  clear c2 f2 y0 y1 yR o3 hb3
  go_wp2_with fail
  refine hcut.out.mono ?_
  rintro e w1 ⟨rfl, rfl⟩
  rw [hU.out]
  have hVs := hz3
  obtain ⟨C, hC⟩ : ∃ C, V.heap.size = C := ⟨_, rfl⟩
  rw [hC] at zC hVs ⊢
  clear hcut
  replace hC := Lib.hid hC
  go_wp2_with fail
  refine (hfold.out _).mono ?_
  rintro e w5 ⟨vD, rfl, hD, hb5⟩
  have q5 : Fed10C w.heap.size w.heap.size (w.heap.size + 1) (w.heap.size + 2) C 0 L vD m U.heap.size w w5 :=
    ⟨_, _, blk_below z0.out hb5, blk_below z1.out hb5, blk_below zR.out hb5, ownI_below o4.out hb5, ownI_nil _ _, hD, own_apart hD (ownI_nil 0 U), blk_below zC.out hb5, below_on hb4.out hb5⟩
  obtain ⟨pD, cD, rfl⟩ := ri_form (ri_of_own hD)
  replace q5 := Lib.hid q5
  clear hD hb5
  go_wp2_with fail
  go_loopg [17] m.length (fun g vi wr => ∃ k : Nat, k ≤ m.length ∧ vi = .int .i64 k ∧ g = m.length - k ∧ Fed10C w.heap.size w.heap.size (w.heap.size + 1) (w.heap.size + 2) C k L (.slice pD m.length cD) m U.heap.size w wr)
  case atStart => exact ⟨0, Nat.zero_le _, rfl, rfl, q5.out⟩
  case round =>
    obtain ⟨k, hk, rfl, rfl, vs, vt, h0, h1, hR, hs, ht, hD, hap, hC2, hb⟩ := hrel
    by_cases hlt : k < m.length
    · have hlt' : (k : Int) < (m.length : Int) := by omega
      obtain ⟨b, off, rfl, _, hcell⟩ := ri_at (ri_of_own hD) (by omega)
      have hc := hcell k hlt
      have hlen := hlens.out (dropsI (m.take k))
      have hdl : (dropsI (m.take k)).length ≤ k := Nat.le_trans (List.length_filter_le _ _) (by rw [List.length_take]; exact Nat.min_le_left _ _)
      have hVs2 := hVs.out
      have htake := feedTake_any w.heap.size C w.heap.size (w.heap.size + 2) (Nor.feedsI L (dropsI (m.take k))).1 (Nor.feedsI L (dropsI (m.take k))).2 m[k] vs vt wr (by omega) (by omega) h0 h1 (by omega) (Nat.le_refl _) (by omega) hs ht hC2
      have hnext := fun w3 hp => fed_next (w3 := w3) (kR := w.heap.size + 1) hlt (Nat.le_refl _) (show w.heap.size ≤ w.heap.size + 2 by omega) (by omega) (by omega) (by omega) (by omega) h0 h1 hR ht hD hap hC2 hb hp
      obtain ⟨x, hx⟩ : ∃ x, m[k] = x := ⟨_, rfl⟩
      rw [hx] at hc htake hnext
      obtain ⟨q, hq⟩ : ∃ q, ((Nor.feedsI (Nor.feedsI L (dropsI (m.take k))).1 (if Prp.drpB x = true then [] else [x])).1, (Nor.feedsI L (dropsI (m.take k))).2 ++ (Nor.feedsI (Nor.feedsI L (dropsI (m.take k))).1 (if Prp.drpB x = true then [] else [x])).2) = q := ⟨_, rfl⟩
      rw [hq] at htake hnext
      replace htake := Lib.hid htake
      replace hnext := Lib.hid hnext
      clear hcell hx hq h0 h1 hR hs ht hD hap hC2 hb hlen hdl hVs2
      go_wp2_with fail
      refine htake.out.mono ?_
      rintro e w3 ⟨rfl, hp3⟩
      have q3 := Lib.hid (hnext.out w3 hp3)
      clear hp3
      go_wp2_with fail
      go_roundg (m.length - (k + 1))
      case measure => omega
      case rel => exact ⟨k + 1, by omega, by go_num, rfl, q3.out⟩
    · obtain rfl : k = m.length := by omega
      have hlt' : decide ((m.length : Int) < (m.length : Int)) = false := by simp
      rw [List.take_length, hP.out] at hs ht
      dsimp only at hs ht
      obtain ⟨ps, cs, rfl⟩ := ri_form (ri_of_own hs)
      obtain ⟨pt, ct, rfl⟩ := ri_form (ri_of_own ht)
      have e0 := blk_cell h0 0 _ rfl
      have e1 := blk_cell h1 0 _ rfl
      have r4 := blk_cell hR 0 _ rfl
      have f4 := blk_thaw hR 0
      have n0 := Lib.hid (show w.heap.size + 1 ≠ w.heap.size by omega)
      have n1 := Lib.hid (show w.heap.size + 1 ≠ w.heap.size + 2 by omega)
      have o8 := Lib.hid (ownI_set hs ⟨w.heap.size + 1, 0, none⟩ (.slice ps P1.length cs) (.inr (own_offT state_ne_int hs hR)))
      have o9 := Lib.hid (ownI_set ht ⟨w.heap.size + 1, 0, none⟩ (.slice ps P1.length cs) (.inr (own_offT state_ne_int ht hR)))
      have hb9 := Lib.hid (hb.setCell (p := ⟨w.heap.size + 1, 0, none⟩) (Nat.le_succ _) (.slice ps P1.length cs))
      have d4 := blk_cell (blk_set (u := .slice ps P1.length cs) hR) 0 _ rfl
      clear hs ht hD hap hC2 hb h0 h1
      replace hR := Lib.hid hR
      go_upto_region 9 with (fail)
      refine wp_region_held_drew (S := fun w' => w'.cell? ⟨w.heap.size, 0, none⟩ = some (.slice ps P1.length cs) ∧ w'.cell? ⟨w.heap.size + 2, 0, none⟩ = some (.slice pt P2.length ct)) (by kernel_rfl) (⟨e0, e1⟩) (fun hS => ?_)
      refine' wpAnyH_take (i := 0) (oi := ⟨_, _, _, _, _, _⟩) (v := _) rfl (by kernel_rfl) (by kernel_rfl) (by kernel_rfl) (fun _ _ _ h => h) (Or.inl ⟨by rfl, ?hy0⟩) hS ?rest0
      case hy0 => (intro wz hSw; (try dsimp only at hSw); go_simp; try with_reducible rfl)
      try simp only [Act.put, List.setIfInBounds_toArray, List.set_cons_zero, List.set_cons_succ]
      refine' wpAnyH_take (i := 1) (oi := ⟨_, _, _, _, _, _⟩) (v := _) rfl (by kernel_rfl) (by kernel_rfl) (by kernel_rfl) (fun _ _ _ h => h) (Or.inl ⟨by rfl, ?hy1⟩) hS ?rest1
      case hy1 => (intro wz hSw; (try dsimp only at hSw); go_simp; try with_reducible rfl)
      try simp only [Act.put, List.setIfInBounds_toArray, List.set_cons_zero, List.set_cons_succ]
      refine wpAnyH_ready (rs := [2]) (by kernel_rfl) (by simp) (AllReadyH.cons rfl (fun K hK => ?_) AllReadyH.nil)
      go_simp
      go_wp2_with fail
      refine hK.out _ _ (set22 n0.out n1.out hS) (fun hSn => ?_)
      clear hS
      have hS := hSn
      clear hSn
      clear hK K
      try simp only [Act.put, List.setIfInBounds_toArray, List.set_cons_zero, List.set_cons_succ]
      refine' wpAnyH_take (i := 3) (oi := ⟨_, _, _, _, _, _⟩) (v := _) rfl (by kernel_rfl) (by kernel_rfl) (by kernel_rfl) (fun _ _ _ h => h) (Or.inl ⟨by rfl, ?hy3⟩) hS ?rest3
      case hy3 => (intro wz hSw; (try dsimp only at hSw); go_simp; try with_reducible rfl)
      try simp only [Act.put, List.setIfInBounds_toArray, List.set_cons_zero, List.set_cons_succ]
      refine wpAnyH_done (by kernel_rfl) ?_ _
      go_wp2_with fail
      refine bodyPost_ret (v := .tuple #[.agg #[.slice ps P1.length cs], .slice pt P2.length ct]) ?_ rfl ⟨_, _, rfl, o8.out, o9.out, hb9.out.drew⟩
      simp [results, Tryz.results59, go_sem, d4]
end Go.Proofs.YtiidjkhkcckmkaaGreatDoor

