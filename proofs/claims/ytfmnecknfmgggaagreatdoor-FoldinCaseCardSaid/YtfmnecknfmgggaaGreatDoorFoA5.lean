/- Layer 10: Feed's literal, and cut's over it. -/
import Derived.Test.YtfmnecknfmgggaaGreatDoorFoA2
import Derived.Test.YtfmnecknfmgggaaGreatDoorNoA9
namespace Go.Proofs.YtfmnecknfmgggaaGreatDoor
set_option linter.unusedSimpArgs false
set_option linter.unusedVariables false
open Go.RowKit Go.Lib

theorem state_ne_int : 26 ≠ 3 := by decide

/-- between two worlds only the blocks k0 and k1 and the row of v were written -/
def Only2 (k0 k1 : Nat) (v : Value) (w w' : World) : Prop := Below 0 w w' ∧ ∀ j, j < w.heap.size → j ≠ k0 → j ≠ k1 → some j ≠ v.ownBlock → w'.heap[j]? = w.heap[j]?

theorem only2_below {B k0 k1 : Nat} {v : Value} {l : List Int} {w0 w w1 : World} (h : Only2 k0 k1 v w w1) (ho : OwnI B v l w) (h0 : B ≤ k0) (h1 : B ≤ k1) (hB : B ≤ w.heap.size) (hb : Below B w0 w) : Below B w0 w1 :=
  hb.trans ⟨h.1.os, h.1.tape, h.1.output, h.1.size, fun j hj => h.2 j (by omega) (by omega) (by omega) (own_not ho hj)⟩

theorem only2_blk {B k0 k1 j : Nat} {v : Value} {l : List Int} {cs : Array Value} {T : TypeId} {w w1 : World} (h : Only2 k0 k1 v w w1) (hT : T ≠ 3) (ho : OwnI B v l w) (hb : Blk w j cs T) (hj : j ≠ k0) (hj1 : j ≠ k1) : Blk w1 j cs T := by
  unfold Blk
  rw [h.2 j (blk_lt hb) hj hj1 (fun e => own_offT hT ho hb e.symm)]
  exact hb

theorem only2_own {B k0 k1 : Nat} {u v : Value} {m : List Int} {cs cs1 : Array Value} {T T1 : TypeId} {w w1 : World} (h : Only2 k0 k1 v w w1) (hu : OwnI B u m w) (hT : T ≠ 3) (hT1 : T1 ≠ 3) (hk : Blk w k0 cs T) (hk1 : Blk w k1 cs1 T1) (hne : u.ownBlock = none ∨ u.ownBlock ≠ v.ownBlock) : OwnI B u m w1 := by
  refine ⟨hu.1, ?_⟩
  have hoff := own_offT hT hu hk
  have hoff1 := own_offT hT1 hu hk1
  rcases hu.2 with hn | ⟨g, cap, cur, rfl, hg, hh, r⟩
  · exact .inl hn
  · refine .inr ⟨g, cap, cur, rfl, hg, ?_, r⟩
    rw [h.2 g (Array.getElem?_eq_some_iff.1 hh).1 (fun e => hoff (by rw [← e]; rfl)) (fun e => hoff1 (by rw [← e]; rfl)) (by simpa [Value.ownBlock] using hne)]
    exact hh

theorem only2_after {k0 k1 : Nat} {v : Value} {w w2 w3 : World} (hb : Below w.heap.size w w2) (h : Only2 k0 k1 v w2 w3) : Only2 k0 k1 v w w3 :=
  ⟨(hb.mono (Nat.zero_le _)).trans h.1, fun j hj h1 h2 h3 => (h.2 j (Nat.lt_of_lt_of_le hj hb.size) h1 h2 h3).trans (hb.block j hj)⟩
theorem only2_self {k0 k1 : Nat} {v : Value} {w w2 : World} (hb : Below w.heap.size w w2) : Only2 k0 k1 v w w2 := ⟨hb.mono (Nat.zero_le _), fun j hj _ _ _ => hb.block j hj⟩

/-- what the literal of Feed leaves: k0 the state's block, k1 the block of what is told -/
def PutF (B k0 k1 : Nat) (q : List Int × List Int) (vt : Value) (w w' : World) : Prop := ∃ va vb, Blk w' k0 #[va] 26 ∧ Blk w' k1 #[vb] 22 ∧ OwnI B va q.1 w' ∧ OwnI B vb q.2 w' ∧ Lies vb vt w ∧ Only2 k0 k1 vt w w'

theorem putF_after {B k0 k1 : Nat} {q : List Int × List Int} {vt : Value} {w w2 w3 : World} (hb : Below w.heap.size w w2) (h : PutF B k0 k1 q vt w2 w3) : PutF B k0 k1 q vt w w3 := by
  obtain ⟨va, vb, h1, h2, h3, h4, h5, h6⟩ := h
  exact ⟨va, vb, h1, h2, h3, h4, lies_after hb h5, only2_after hb h6⟩

set_option maxHeartbeats 3200000 in
set_option maxRecDepth 100000 in
theorem feedPut_any (B k0 k1 : Nat) (l T : List Int) (r : Int) (vs vt : Value) (w : World) (hl : l.length ≤ 1000) (ht : T.length ≤ 1000000) (h0 : Blk w k0 #[vs] 26) (h1 : Blk w k1 #[vt] 22) (hne : k0 ≠ k1) (hB0 : B ≤ k0) (hB1 : B ≤ k1) (hv : RI w vs l) (ho : OwnI B vt T w) :
    Calls Tryz.prog 17 #[.int .i64 r, .pointer (some ⟨k0, 0, none⟩), .pointer (some ⟨k1, 0, none⟩)] w fun e w' => e = .returned (.tuple #[]) ∧ PutF B k0 k1 ((Nor.feedI l r).1, T ++ (Nor.feedI l r).2) vt w w' := by
  obtain ⟨i0, hi, hz0, hz1, hz2⟩ := info_parts info_i
  have b0 := blk_cell h0 0 _ rfl
  have hk0 := blk_lt h0
  have hk1 := blk_lt h1
  have hfeed := feedC9 vs l r w (by omega) hv
  have hft := Nor.feed_told l r
  obtain ⟨q, hq⟩ : ∃ q, Nor.feedI l r = q := ⟨_, rfl⟩
  rw [hq] at hfeed hft ⊢
  obtain ⟨q1, q2⟩ := q
  dsimp only at hft ⊢
  obtain ⟨ps, cs, rfl⟩ := ri_form hv
  obtain ⟨pt, ct, rfl⟩ := ri_form (ri_of_own ho)
  obtain ⟨m, hm⟩ : ∃ m, T ++ q2 = m := ⟨_, rfl⟩
  rw [hm]
  have h8a : T.length + q2.length ≤ maxLen := by unfold maxLen; omega
  have h8b : (T.length + q2.length) * 8 ≤ 140737488355328 := by omega
  replace h8a := Lib.hid h8a
  replace h8b := Lib.hid h8b
  replace hm := Lib.hid hm
  replace hfeed := Lib.hid hfeed
  replace h0 := Lib.hid h0
  replace h1 := Lib.hid h1
  replace ho := Lib.hid ho
  replace hne := Lib.hid hne
  clear hv hq hft
  go_enter Tryz.func17, Tryz.ntmps17
  go_wp2_with fail
  refine hfeed.out.mono ?_
  rintro e w2 ⟨va, vb, rfl, hva, hvb, hb2⟩
  obtain ⟨pa, ca, rfl⟩ := ri_form (ri_of_own hva)
  obtain ⟨pb, cb, rfl⟩ := ri_form (ri_of_own hvb)
  have h02 := blk_below h0.out hb2
  have h12 := blk_below h1.out hb2
  have ho2 := ownI_below ho.out hb2
  have c0 := blk_cell h02 0 _ rfl
  have f0 := blk_thaw h02 0
  have h03 := Lib.hid (blk_set (u := .slice pa q1.length ca) h02)
  have h13 := blk_other (j := k0) (u := .slice pa q1.length ca) h12 hne.out
  have c1 := blk_cell h13 0 _ rfl
  replace h13 := Lib.hid h13
  have hva3 := Lib.hid (ownI_set hva ⟨k0, 0, none⟩ (.slice pa q1.length ca) (.inr (own_offT state_ne_int hva h02)))
  have ht3 := Lib.hid (ri_src (ri_store (ri_of_own hvb) h02 (no_slice _ _ _) (.slice pa q1.length ca)))
  have ho3 := Lib.hid (ownI_set ho2 ⟨k0, 0, none⟩ (.slice pa q1.length ca) (.inr (own_offT state_ne_int ho2 h02)))
  have hap := Lib.hid (own_apart hva ho.out)
  have hsz := Lib.hid (show B ≤ (w2.setCell ⟨k0, 0, none⟩ (.slice pa q1.length ca)).heap.size by have := hb2.size; simp; omega)
  have hBw := Lib.hid (show B ≤ w.heap.size by omega)
  replace h02 := Lib.hid h02
  replace hb2 := Lib.hid hb2
  clear h12 ho2 hva hvb
  go_wp2_with (at_builtin; refine wpList_append_src3 rfl _ _ 22 rfl B 3 i0 (.int .i64 0) 8 Tryz.underlying22 hi hz0 hz1 hz2 rfl _ _ _ rfl ho3.out _ _ rfl ht3.out (oneCellI q2) (by rw [List.length_map]; exact h8a.out) (by rw [List.length_map]; exact h8b.out) hsz.out ?_; intro v5 w5 hown5 hgrow5 hlies5; have o5 := Lib.hid (ownI_of_row (l := T ++ q2) hown5 (by simp) (by simp)); rw [hm.out] at o5; obtain ⟨p5, q5, rfl⟩ := ri_form (ri_of_own o5.out); have x5 := Lib.hid (blk_grown h13.out hgrow5 (fun e => own_offT int_ne_ints ho3.out h13.out e.symm)); have y5 := Lib.hid (blk_grown h03.out hgrow5 (fun e => own_offT state_ne_int ho3.out h03.out e.symm)); have c5 := blk_cell x5.out 0 _ rfl; have f5 := blk_thaw x5.out 0; have a5 := Lib.hid (World.ownsRow.kept hva3.out hgrow5 hap.out); replace hgrow5 := Lib.hid hgrow5; replace hlies5 := Lib.hid hlies5; clear hown5)
  go_wp2_with fail
  go_end0
  have a5' : OwnI w.heap.size (.slice pa q1.length ca) q1 w5 := a5.out
  refine ⟨rfl, .slice pa q1.length ca, .slice p5 m.length q5, blk_other (j := k1) y5.out hne.out.symm, blk_set x5.out, ownI_mono (ownI_set a5' _ _ (.inr (own_offT int_ne_ints a5' x5.out))) hBw.out, ownI_set o5.out _ _ (.inr (own_offT int_ne_ints o5.out x5.out)), ?_, ?_, ?_⟩
  · rcases hlies5.out with h | ⟨j, h1, h2⟩
    · exact .inl h
    · exact .inr ⟨j, h1, Nat.le_trans hb2.out.size (by simpa using h2)⟩
  · have hg := hgrow5.out
    have hb := hb2.out
    exact ⟨hg.os.trans hb.os, hg.tape.trans hb.tape, hg.output.trans hb.output, by have h1 := hg.size; have h2 := hb.size; simp at h1 ⊢; omega, fun j hj => by omega⟩
  · intro j hj hj0 hj1 hjv
    rw [Below.heap_setCell _ _ _ _ (by exact hj1), hgrow5.out.block j (by have := hb2.out.size; simp; omega) hjv, Below.heap_setCell _ _ _ _ (by exact hj0), hb2.out.block j hj]

set_option maxHeartbeats 1600000 in
set_option maxRecDepth 100000 in
theorem feedCut_any (k0 k1 : Nat) (w : World) : Calls Tryz.prog 16 #[.func (.func 17) #[] #[.pointer (some ⟨k0, 0, none⟩), .pointer (some ⟨k1, 0, none⟩)]] w fun e w' =>
    e = .returned (.func (.func 31) #[] #[.pointer (some ⟨w.heap.size, 0, none⟩)]) ∧ w' = w.alloc (.cells #[.func (.func 17) #[] #[.pointer (some ⟨k0, 0, none⟩), .pointer (some ⟨k1, 0, none⟩)]] 36) := by
  have hmf : ∀ (fn : Fn) (first cap : Array Value) (w : World), (Instr.makeFunc fn first cap).run Tryz.prog w = .ok (.func fn first cap) w := fun _ _ _ _ => rfl
  go_enter Tryz.func16, Tryz.ntmps16
  go_wp2_with fail
  go_ret
  exact ⟨rfl, rfl⟩

set_option maxHeartbeats 1600000 in
set_option maxRecDepth 100000 in
theorem feedTake_any (B C k0 k1 : Nat) (l T : List Int) (r : Int) (vs vt : Value) (w : World) (hl : l.length ≤ 1000) (ht : T.length ≤ 1000000) (h0 : Blk w k0 #[vs] 26) (h1 : Blk w k1 #[vt] 22) (hne : k0 ≠ k1) (hB0 : B ≤ k0) (hB1 : B ≤ k1) (hv : OwnI B vs l w) (ho : OwnI B vt T w)
    (hC : Blk w C #[.func (.func 17) #[] #[.pointer (some ⟨k0, 0, none⟩), .pointer (some ⟨k1, 0, none⟩)]] 36) :
    Calls Tryz.prog 31 #[.int .i64 r, .pointer (some ⟨C, 0, none⟩)] w fun e w' => e = .returned (.tuple #[]) ∧ PutF B k0 k1 ((Nor.feedsI l (if Prp.drpB r = true then [] else [r])).1, T ++ (Nor.feedsI l (if Prp.drpB r = true then [] else [r])).2) vt w w' := by
  have hdx := drops_any r
  cases hdb : Prp.drpB r with
  | true =>
    rw [hdb] at hdx
    rw [if_pos rfl]
    simp only [Nor.feedsI, List.append_nil]
    replace hdx := Lib.hid hdx
    replace h0 := Lib.hid h0
    replace h1 := Lib.hid h1
    replace hv := Lib.hid hv
    replace ho := Lib.hid ho
    replace hC := Lib.hid hC
    clear hdb
    go_enter Tryz.func31, Tryz.ntmps31
    go_wp2_with fail
    refine (hdx.out _).mono ?_
    rintro e w2 ⟨rfl, hb2⟩
    replace hb2 := Lib.hid hb2
    go_wp2_with fail
    go_end0
    exact ⟨rfl, vs, vt, blk_below h0.out hb2.out, blk_below h1.out hb2.out, ownI_below hv.out hb2.out, ownI_below ho.out hb2.out, .inl rfl, only2_self hb2.out⟩
  | false =>
    rw [hdb] at hdx
    rw [if_neg (by simp)]
    have hone : Nor.feedsI l [r] = Nor.feedI l r := by simp [Nor.feedsI]
    rw [hone]
    replace hdx := Lib.hid hdx
    replace h0 := Lib.hid h0
    replace h1 := Lib.hid h1
    replace hv := Lib.hid hv
    replace ho := Lib.hid ho
    replace hC := Lib.hid hC
    clear hdb hone
    go_enter Tryz.func31, Tryz.ntmps31
    go_wp2_with fail
    refine (hdx.out _).mono ?_
    rintro e w2 ⟨rfl, hb2⟩
    have c2 := blk_cell (blk_below hC.out hb2) 0 _ rfl
    have hput := Lib.hid (feedPut_any B k0 k1 l T r vs vt w2 hl ht (blk_below h0.out hb2) (blk_below h1.out hb2) hne hB0 hB1 (ri_below (ri_of_own hv.out) hb2) (ownI_below ho.out hb2))
    replace hb2 := Lib.hid hb2
    go_wp2_with fail
    refine hput.out.mono ?_
    rintro e w3 ⟨rfl, hp3⟩
    replace hp3 := Lib.hid hp3
    go_wp2_with fail
    go_end0
    exact ⟨rfl, putF_after hb2.out hp3.out⟩

end Go.Proofs.YtfmnecknfmgggaaGreatDoor
