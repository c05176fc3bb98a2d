/- Texts that stand together. -/
import Derived.Test.YtiidjkhkcckmkaaGreatDoorCnRP
import Derived.Test.YtiidjkhkcckmkaaGreatDoorDeRP
import Derived.Test.YtiidjkhkcckmkaaGreatDoorMatP
import Derived.Test.YtiidjkhkcckmkaaGreatDoorKP
import Derived.Test.YtiidjkhkcckmkaaGreatDoorBasP
/- Layer 9: the document's marks, head, put. -/
namespace Go.Proofs.YtiidjkhkcckmkaaGreatDoor
set_option linter.unusedSimpArgs false
set_option linter.unusedVariables false
open Go.RowKit Go.Lib
theorem rjoin_yes (a b x : Int) (h : Par.joinI a b = some x) (w : World) : Calls Tryz.prog 143 #[.int .i64 a, .int .i64 b] w fun e w' => e = .returned (.tuple #[.int .i64 x, .bool true]) ∧ w = w' := by
  have := rjoin_any a b w
  rw [h] at this
  exact this
theorem rjoin_not (a b : Int) (h : Par.joinI a b = none) (w : World) : Calls Tryz.prog 143 #[.int .i64 a, .int .i64 b] w fun e w' => e = .returned (.tuple #[.int .i64 0, .bool false]) ∧ w = w' := by
  have := rjoin_any a b w
  rw [h] at this
  exact this
theorem cnt_snoc (l : List Int) (x : Int) : Nor.cntI (l ++ [x]) = Nor.cntI l + if Prp.mrkB x = true then 1 else 0 := by
  unfold Nor.cntI
  rw [List.filter_append, List.length_append]
  split <;> simp_all
set_option maxHeartbeats 1600000 in
set_option maxRecDepth 100000 in
theorem rcount_any (v : Value) (l : List Int) (w : World) (hl : l.length ≤ 1000000) (hv : RI w v l) : Calls Tryz.prog 84 #[v] w fun e w' => e = .returned (.int .i64 (Nor.cntI l : Nat)) ∧ Below w.heap.size w w' := by
  obtain ⟨p, cap, rfl⟩ := ri_form hv
  replace hv := Lib.hid hv
  go_enter Tryz.func84, Tryz.ntmps84
  go_wp2_with fail
  go_loopg [3, 4] l.length (fun g va vi wr => ∃ k a : Nat, k ≤ l.length ∧ va = .int .i64 a ∧ vi = .int .i64 k ∧ g = l.length - k ∧ a ≤ k ∧ Hid (Nor.cntI (l.take k) = a) ∧ Below w.heap.size w wr)
  case atStart => exact ⟨0, 0, Nat.zero_le _, rfl, rfl, rfl, Nat.le_refl _, Lib.hid rfl, Below.refl _ _⟩
  case round =>
    obtain ⟨k, a, hk, rfl, rfl, rfl, hak, hcnt, hbel⟩ := hrel
    by_cases hlt : k < l.length
    · have hlt' : (k : Int) < (l.length : Int) := by omega
      obtain ⟨b, off, rfl, hb, hcell⟩ := ri_at hv.out (by omega)
      have hc : wr.cell? ⟨b, off + k, none⟩ = some (.int .i64 l[k]) := (hbel.cell hb).trans (hcell k hlt)
      have hs := cnt_snoc (l.take k) l[k]
      rw [← List.take_succ_eq_append_getElem hlt, hcnt.out] at hs
      obtain ⟨x, hx⟩ : ∃ x, l[k] = x := ⟨_, rfl⟩
      rw [hx] at hc hs
      have hmx := rmark_any x
      cases hmb : Prp.mrkB x with
      | true =>
        rw [hmb] at hmx hs
        simp only [if_true] at hs
        replace hmx := Lib.hid hmx
        replace hs := Lib.hid hs
        replace hbel := Lib.hid hbel
        clear hcell hx hmb hcnt
        go_wp2_with fail
        refine (hmx.out _).mono ?_
        rintro e w2 ⟨rfl, hb2⟩
        replace hb2 := Lib.hid (below_on hbel.out hb2)
        go_wp2_with fail
        go_roundg (l.length - (k + 1))
        case measure => omega
        case rel => exact ⟨k + 1, a + 1, by omega, by go_num, by go_num, rfl, by omega, hs, hb2.out⟩
      | false =>
        rw [hmb] at hmx hs
        simp only [Bool.false_eq_true, if_false, Nat.add_zero] at hs
        replace hmx := Lib.hid hmx
        replace hs := Lib.hid hs
        replace hbel := Lib.hid hbel
        clear hcell hx hmb hcnt
        go_wp2_with fail
        refine (hmx.out _).mono ?_
        rintro e w2 ⟨rfl, hb2⟩
        replace hb2 := Lib.hid (below_on hbel.out hb2)
        go_wp2_with fail
        go_roundg (l.length - (k + 1))
        case measure => omega
        case rel => exact ⟨k + 1, a, by omega, rfl, by go_num, rfl, by omega, hs, hb2.out⟩
    · obtain rfl : k = l.length := by omega
      have hlt' : decide ((l.length : Int) < (l.length : Int)) = false := by simp
      have hM2 := hcnt.out
      rw [List.take_length] at hM2
      replace hM2 := Lib.hid hM2
      replace hbel := Lib.hid hbel
      clear hcnt
      go_wp2_with fail
      go_ret
      exact ⟨by rw [hM2.out]; rfl, hbel.out⟩
def Two (p : List Int × List Int) (w : World) (e : Ending) (w' : World) : Prop := ∃ va vb, e = .returned (.tuple #[va, vb]) ∧ OwnI w.heap.size va p.1 w' ∧ RI w' vb p.2 ∧ Below w.heap.size w w'
theorem head_one {l : List Int} {x d : Int} (h : Can.composeI l = [x]) (hx : Prp.mrkB x = false) : Nor.headI l d = match Par.joinI x d with | some v => ([v], []) | none => ([d], [x]) := by
  unfold Nor.headI
  rw [h]
  simp only [hx, if_true]
  cases Par.joinI x d <;> rfl
theorem head_mark9r {l : List Int} {x d : Int} (h : Can.composeI l = [x]) (hx : Prp.mrkB x = true) : Nor.headI l d = ([d], [x]) := by
  unfold Nor.headI
  rw [h]
  simp [hx]
theorem head_more {l : List Int} {d : Int} (h : (Can.composeI l).length ≠ 1) : Nor.headI l d = ([d], Can.composeI l) := by
  unfold Nor.headI
  split
  · rename_i x e
    rw [e] at h
    simp at h
  · rfl
set_option maxHeartbeats 3200000 in
set_option maxRecDepth 100000 in
theorem rhead_any (v : Value) (l : List Int) (d : Int) (w : World) (hl : l.length ≤ 1000000) (hv : RI w v l) : Calls Tryz.prog 107 #[v, .int .i64 d] w (Two (Nor.headI l d) w) := by
  have hcomp := Lib.hid (rcompose_any v l w hl hv)
  have hcl := Can.compose_le l
  have h1 := fun x => @head_one l x d
  have h2 := fun x => @head_mark9r l x d
  have h3 := @head_more l d
  obtain ⟨c, hc⟩ : ∃ c, Can.composeI l = c := ⟨_, rfl⟩
  rw [hc] at hcomp hcl h1 h2 h3
  clear hc
  by_cases hc1 : c.length = 1
  · obtain ⟨x, rfl⟩ : ∃ x, c = [x] := List.length_eq_one_iff.1 hc1
    have hmx := rmark_any x
    clear hc1 h3 hcl
    cases hmb : Prp.mrkB x with
    | true =>
      rw [h2 x rfl hmb]
      rw [hmb] at hmx
      replace hmx := Lib.hid hmx
      clear h1 h2 hmb
      go_enter Tryz.func107, Tryz.ntmps107
      go_wp2_with fail
      refine hcomp.out.mono ?_
      rintro e w1 ⟨v1, rfl, ho1, hb1⟩
      obtain ⟨g, cp, rfl, _, hg, hcell⟩ := ownI_open ho1 (by simp)
      have c0 := hcell 0 (by simp)
      simp only [List.length_singleton, List.getElem_cons_zero] at c0 ho1 ⊢
      have ho1' := Lib.hid ho1
      replace hb1 := Lib.hid hb1
      clear hcell ho1
      go_wp2_with fail
      refine (hmx.out _).mono ?_
      rintro e w2 ⟨rfl, hb2⟩
      have ho2 := Lib.hid (ri_of_own (ownI_below ho1'.out hb2))
      replace hb2 := Lib.hid (below_on hb1.out hb2)
      go_wp2_with fail
      go_ret2
      exact ⟨_, _, rfl, (ownI_lit w.heap.size w2 [d] #[.int .i64 d] _ 1 rfl hb2.out.size rfl rfl (by unfold maxLen; omega)), ri_below ho2.out (below_new w2 _), hb2.out.alloc hb2.out.size _⟩
    | false =>
      have hh := h1 x rfl hmb
      rw [hmb] at hmx
      replace hmx := Lib.hid hmx
      clear h1 h2 hmb
      cases hj : Par.joinI x d with
      | none =>
        rw [hj] at hh
        rw [hh]
        have hjr := Lib.hid (rjoin_not x d hj)
        clear hh hj
        go_enter Tryz.func107, Tryz.ntmps107
        go_wp2_with fail
        refine hcomp.out.mono ?_
        rintro e w1 ⟨v1, rfl, ho1, hb1⟩
        obtain ⟨g, cp, rfl, _, hg, hcell⟩ := ownI_open ho1 (by simp)
        have c0 := hcell 0 (by simp)
        simp only [List.length_singleton, List.getElem_cons_zero] at c0 ho1 ⊢
        have ho1' := Lib.hid ho1
        replace hb1 := Lib.hid hb1
        clear hcell ho1
        go_wp2_with fail
        refine (hmx.out _).mono ?_
        rintro e w2 ⟨rfl, hb2⟩
        have ho2 := Lib.hid (ri_of_own (ownI_below ho1'.out hb2))
        have c2 : w2.cell? ⟨g, 0, none⟩ = some (.int .i64 x) := (hb2.cell hg).trans c0
        replace hb2 := Lib.hid (below_on hb1.out hb2)
        go_wp2_with fail
        refine (hjr.out _).mono ?_
        rintro e w3 ⟨rfl, rfl⟩
        go_wp2_with fail
        go_ret2
        exact ⟨_, _, rfl, (ownI_lit w.heap.size w2 [d] #[.int .i64 d] _ 1 rfl hb2.out.size rfl rfl (by unfold maxLen; omega)), ri_below ho2.out (below_new w2 _), hb2.out.alloc hb2.out.size _⟩
      | some y =>
        rw [hj] at hh
        rw [hh]
        have hjr := Lib.hid (rjoin_yes x d y hj)
        clear hh hj
        go_enter Tryz.func107, Tryz.ntmps107
        go_wp2_with fail
        refine hcomp.out.mono ?_
        rintro e w1 ⟨v1, rfl, ho1, hb1⟩
        obtain ⟨g, cp, rfl, _, hg, hcell⟩ := ownI_open ho1 (by simp)
        have c0 := hcell 0 (by simp)
        simp only [List.length_singleton, List.getElem_cons_zero] at c0 ho1 ⊢
        replace hb1 := Lib.hid hb1
        clear hcell ho1
        go_wp2_with fail
        refine (hmx.out _).mono ?_
        rintro e w2 ⟨rfl, hb2⟩
        have c2 : w2.cell? ⟨g, 0, none⟩ = some (.int .i64 x) := (hb2.cell hg).trans c0
        replace hb2 := Lib.hid (below_on hb1.out hb2)
        go_wp2_with fail
        refine (hjr.out _).mono ?_
        rintro e w3 ⟨rfl, rfl⟩
        go_wp2_with fail
        go_ret2
        exact ⟨_, _, rfl, (ownI_lit w.heap.size w2 [y] #[.int .i64 y] _ 1 rfl hb2.out.size rfl rfl (by unfold maxLen; omega)), ri_nil _, hb2.out.alloc hb2.out.size _⟩
  · rw [h3 hc1]
    have hc1' : ((c.length : Int) == 1) = false := beq_eq_false_iff_ne.2 (by omega)
    clear h1 h2 h3 hc1
    go_enter Tryz.func107, Tryz.ntmps107
    go_wp2_with fail
    refine hcomp.out.mono ?_
    rintro e w1 ⟨v1, rfl, ho1, hb1⟩
    obtain ⟨p, cp, rfl⟩ := ri_form (ri_of_own ho1)
    have ho1' := Lib.hid ho1
    replace hb1 := Lib.hid hb1
    clear ho1
    go_wp2_with fail
    go_ret2
    exact ⟨_, _, rfl, (ownI_lit w.heap.size w1 [d] #[.int .i64 d] _ 1 rfl hb1.out.size rfl rfl (by unfold maxLen; omega)), ri_below (ri_of_own ho1'.out) (below_new w1 _), hb1.out.alloc hb1.out.size _⟩
theorem ins_eq (l : List Int) (d : Int) : Nor.insI l d = Can.insF l d := rfl
set_option maxHeartbeats 3200000 in
set_option maxRecDepth 100000 in
theorem rput9_any (v : Value) (l : List Int) (d : Int) (w : World) (hl : l.length ≤ 1000000) (hv : RI w v l) : Calls Tryz.prog 67 #[v, .int .i64 d] w (Two (Nor.putI l d) w) := by
  have hmd := rmark_any d
  unfold Nor.putI
  cases hmb : Prp.mrkB d with
  | false =>
    rw [if_neg (by simp)]
    rw [hmb] at hmd
    replace hmd := Lib.hid hmd
    replace hv := Lib.hid hv
    obtain ⟨p, hp⟩ : ∃ p, Nor.headI l d = p := ⟨_, rfl⟩
    rw [hp]
    replace hp := Lib.hid hp
    clear hmb
    go_enter Tryz.func67, Tryz.ntmps67
    go_wp2_with fail
    refine (hmd.out _).mono ?_
    rintro e w1 ⟨rfl, hb1⟩
    have hh := rhead_any v l d w1 hl (ri_below hv.out hb1)
    rw [hp.out] at hh
    replace hh := Lib.hid hh
    replace hb1 := Lib.hid hb1
    go_wp2_with fail
    refine hh.out.mono ?_
    rintro e w2 ⟨va, vb, rfl, ha, hbb, hb2⟩
    replace ha := Lib.hid (ownI_mono ha hb1.out.size)
    replace hbb := Lib.hid hbb
    replace hb2 := Lib.hid (below_on hb1.out hb2)
    go_wp2_with fail
    go_ret2
    exact ⟨_, _, rfl, ha.out, hbb.out, hb2.out⟩
  | true =>
    rw [if_pos rfl]
    rw [hmb] at hmd
    replace hmd := Lib.hid hmd
    replace hv := Lib.hid hv
    clear hmb
    by_cases h30 : Nor.cntI l = 30
    · rw [if_pos h30, Nor.head847]
      have hp := Nor.head847 l
      rw [ins_eq]
      obtain ⟨q, hq⟩ : ∃ q, Can.composeI l = q := ⟨_, rfl⟩
      rw [hq] at hp ⊢
      obtain ⟨u, hu⟩ : ∃ u, Can.insF [847] d = u := ⟨_, rfl⟩
      rw [hu]
      replace hp := Lib.hid hp
      replace hq := Lib.hid hq
      replace hu := Lib.hid hu
      replace h30 := Lib.hid h30
      go_enter Tryz.func67, Tryz.ntmps67
      go_wp2_with fail
      refine (hmd.out _).mono ?_
      rintro e w1 ⟨rfl, hb1⟩
      have hcn := rcount_any v l w1 hl (ri_below hv.out hb1)
      rw [h30.out] at hcn
      replace hcn := Lib.hid hcn
      replace hb1 := Lib.hid hb1
      go_wp2_with fail
      refine hcn.out.mono ?_
      rintro e w2 ⟨rfl, hb2⟩
      replace hb2 := Lib.hid (below_on hb1.out hb2)
      have hh := rhead_any v l 847 w2 hl (ri_below hv.out hb2.out)
      rw [hp.out] at hh
      replace hh := Lib.hid hh
      go_wp2_with fail
      refine hh.out.mono ?_
      rintro e w3 ⟨va, vb, rfl, ha, hbb, hb3⟩
      have hins := rinsert_any va [847] d w3 (by simp) (ri_of_own ha)
      rw [hu.out] at hins
      replace hins := Lib.hid hins
      replace hbb := Lib.hid hbb
      replace hb3 := Lib.hid (below_on hb2.out hb3)
      clear ha
      go_wp2_with fail
      refine hins.out.mono ?_
      rintro e w4 ⟨v4, rfl, ho4, hb4⟩
      have hbb4 := Lib.hid (ri_below hbb.out hb4)
      have ho4' := Lib.hid (ownI_mono ho4 hb3.out.size)
      replace hb4 := Lib.hid (below_on hb3.out hb4)
      clear ho4
      go_wp2_with fail
      go_ret2
      exact ⟨_, _, rfl, ho4'.out, hbb4.out, hb4.out⟩
    · rw [if_neg h30, ins_eq]
      have h30' : ((Nor.cntI l : Int) == 30) = false := beq_eq_false_iff_ne.2 (by omega)
      obtain ⟨c, hc⟩ : ∃ c, Nor.cntI l = c := ⟨_, rfl⟩
      rw [hc] at h30'
      obtain ⟨u, hu⟩ : ∃ u, Can.insF l d = u := ⟨_, rfl⟩
      rw [hu]
      replace hc := Lib.hid hc
      replace hu := Lib.hid hu
      clear h30
      go_enter Tryz.func67, Tryz.ntmps67
      go_wp2_with fail
      refine (hmd.out _).mono ?_
      rintro e w1 ⟨rfl, hb1⟩
      have hcn := rcount_any v l w1 hl (ri_below hv.out hb1)
      rw [hc.out] at hcn
      replace hcn := Lib.hid hcn
      replace hb1 := Lib.hid hb1
      go_wp2_with fail
      refine hcn.out.mono ?_
      rintro e w2 ⟨rfl, hb2⟩
      replace hb2 := Lib.hid (below_on hb1.out hb2)
      have hins := rinsert_any v l d w2 hl (ri_below hv.out hb2.out)
      rw [hu.out] at hins
      replace hins := Lib.hid hins
      go_wp2_with fail
      refine hins.out.mono ?_
      rintro e w4 ⟨v4, rfl, ho4, hb4⟩
      have ho4' := Lib.hid (ownI_mono ho4 hb2.out.size)
      replace hb4 := Lib.hid (below_on hb2.out hb4)
      clear ho4
      go_wp2_with fail
      go_ret2
      exact ⟨_, _, rfl, ho4'.out, ri_nil _, hb4.out⟩
end Go.Proofs.YtiidjkhkcckmkaaGreatDoor

/- Layer 9: the document's Sane, End, Feed. -/
namespace Go.Proofs.YtiidjkhkcckmkaaGreatDoor
set_option linter.unusedSimpArgs false
set_option linter.unusedVariables false
open Go.RowKit Go.Lib
set_option maxHeartbeats 3200000 in
set_option maxRecDepth 100000 in
theorem rsane9_any (v : Value) (l : List Int) (w : World) (hl : l.length ≤ 100000) (hv : RI w v l) : Calls Tryz.prog 52 #[.agg #[v]] w fun e w' => e = .returned (.bool (Nor.saneB l)) ∧ Below w.heap.size w w' := by
  obtain ⟨p, cap, rfl⟩ := ri_form hv
  have hbox := blk_new w #[.slice p l.length cap] 26
  have hb0 := below_new w (.cells #[.slice p l.length cap] 26)
  have hbx : ∀ {wr : World}, Below w.heap.size w wr → True := fun _ => trivial
  have hs0 : (w.alloc (.cells #[.slice p l.length cap] 26)).heap.size = w.heap.size + 1 := by simp
  obtain ⟨W, hW⟩ : ∃ W, w.alloc (.cells #[.slice p l.length cap] 26) = W := ⟨_, rfl⟩
  have hvW := ri_below hv hb0
  rw [hW] at hbox hb0 hs0 hvW
  have hsn : Nor.saneB l = (l.tail.all Prp.mrkB && decide (Nor.cntI l ≤ 30) && Can.sortedB l) := rfl
  rw [hsn]
  obtain ⟨S, hS⟩ : ∃ S, Can.sortedB l = S := ⟨_, rfl⟩
  obtain ⟨C, hC⟩ : ∃ C, Nor.cntI l = C := ⟨_, rfl⟩
  rw [hS, hC]
  obtain ⟨R, hR⟩ : ∃ R, (l.tail.all Prp.mrkB && decide (C ≤ 30) && S) = R := ⟨_, rfl⟩
  rw [hR]
  replace hR := Lib.hid hR
  replace hbox := Lib.hid hbox
  replace hb0 := Lib.hid hb0
  replace hs0 := Lib.hid hs0
  replace hvW := Lib.hid hvW
  replace hS := Lib.hid hS
  replace hC := Lib.hid hC
  replace hW := Lib.hid hW
  clear hsn hv hbx
  go_enter Tryz.func52, Tryz.ntmps52
  go_upto_region 1 with (fail)
  rw [hW.out]
  have b0 := blk_cell hbox.out 0 _ rfl
  go_wp2_with fail
  go_loopg [3] (l.length - 1) (fun g vi wr => ∃ k : Nat, 1 ≤ k ∧ (k ≤ l.length ∨ k = 1) ∧ vi = .int .i64 k ∧ g = l.length - k ∧ Hid (∀ j (hj : j < l.length), 1 ≤ j → j < k → Prp.mrkB l[j] = true) ∧ Below W.heap.size W wr)
  case atStart => exact ⟨1, Nat.le_refl _, .inr rfl, rfl, rfl, Lib.hid fun j hj h1 h2 => by omega, Below.refl _ _⟩
  case round =>
    obtain ⟨k, hk1, hk2, rfl, rfl, hmk, hbel⟩ := hrel
    have hkW : w.heap.size < W.heap.size := by rw [hs0.out]; omega
    have c0 := blk_cell (blk_below hbox.out hbel) 0 _ rfl
    have hB := Lib.hid (hb0.out.trans (hbel.mono hb0.out.size))
    by_cases hlt : k < l.length
    · have hlt' : (k : Int) < (l.length : Int) := by omega
      have hk3 : k ≤ l.length := by omega
      obtain ⟨b, off, rfl, hb, hcell⟩ := ri_at hvW.out (by omega)
      have hc : wr.cell? ⟨b, off + k, none⟩ = some (.int .i64 l[k]) := (hbel.cell hb).trans (hcell k hlt)
      obtain ⟨x, hx⟩ : ∃ x, l[k] = x := ⟨_, rfl⟩
      rw [hx] at hc
      have hmx := rmark_any x
      cases hmb : Prp.mrkB x with
      | true =>
        rw [hmb] at hmx
        replace hmx := Lib.hid hmx
        have hmk2 : Hid (∀ j (hj : j < l.length), 1 ≤ j → j < k + 1 → Prp.mrkB l[j] = true) := Lib.hid fun j hj h1 h2 => by
          rcases Nat.lt_or_ge j k with h | h
          · exact hmk.out j hj h1 h
          · obtain rfl : j = k := by omega
            rw [hx, hmb]
        replace hbel := Lib.hid hbel
        clear hcell hx hmb hmk hk2
        go_wp2_with fail
        refine (hmx.out _).mono ?_
        rintro e w2 ⟨rfl, hb2⟩
        replace hb2 := Lib.hid (below_on hbel.out hb2)
        go_wp2_with fail
        go_roundg (l.length - (k + 1))
        case measure => omega
        case rel => exact ⟨k + 1, by omega, .inl (by omega), by go_num, rfl, hmk2, hb2.out⟩
      | false =>
        rw [hmb] at hmx
        replace hmx := Lib.hid hmx
        have hno : false = R := by
          rw [← hR.out]
          have : l.tail.all Prp.mrkB = false := by
            rw [List.all_eq_false]
            refine ⟨x, ?_, by rw [hmb]; simp⟩
            rw [← hx]
            cases l with
            | nil => simp at hlt
            | cons a t =>
              cases k with
              | zero => omega
              | succ k => simp
          rw [this]
          rfl
        replace hno := Lib.hid hno
        replace hbel := Lib.hid hbel
        clear hcell hx hmb hmk hk2
        go_wp2_with fail
        refine (hmx.out _).mono ?_
        rintro e w2 ⟨rfl, hb2⟩
        replace hb2 := Lib.hid (below_on hbel.out hb2)
        go_wp2_with fail
        go_ret
        exact ⟨ret_bool hno.out, hb0.out.trans (hb2.out.mono hb0.out.size)⟩
    · have hlt' : decide ((k : Int) < (l.length : Int)) = false := by simp; omega
      have hall : l.tail.all Prp.mrkB = true := by
        rw [List.all_eq_true]
        intro y hy
        obtain ⟨j, hj, rfl⟩ := List.mem_iff_getElem.1 hy
        rw [List.length_tail] at hj
        rw [List.getElem_tail]
        exact hmk.out (j + 1) (by omega) (by omega) (by omega)
      have hRR := hR.out
      rw [hall, Bool.true_and] at hRR
      have hcn := rcount_any (.slice p l.length cap) l wr (by omega) (ri_below hvW.out hbel)
      rw [hC.out] at hcn
      replace hcn := Lib.hid hcn
      replace hbel := Lib.hid hbel
      clear hmk hall hk2
      by_cases h30 : C ≤ 30
      · have h30' : (C : Int) ≤ 30 := by omega
        rw [decide_eq_true h30, Bool.true_and] at hRR
        replace hRR := Lib.hid hRR
        go_wp2_with fail
        refine hcn.out.mono ?_
        rintro e w2 ⟨rfl, hb2⟩
        replace hb2 := Lib.hid (below_on hbel.out hb2)
        have c2 := blk_cell (blk_below hbox.out hb2.out) 0 _ rfl
        have hso := rsorted_any (.slice p l.length cap) l w2 hl (ri_below hvW.out hb2.out)
        rw [hS.out] at hso
        replace hso := Lib.hid hso
        go_wp2_with fail
        refine hso.out.mono ?_
        rintro e w3 ⟨rfl, hb3⟩
        replace hb3 := Lib.hid (below_on hb2.out hb3)
        go_wp2_with fail
        go_ret
        exact ⟨ret_bool hRR.out, hb0.out.trans (hb3.out.mono hb0.out.size)⟩
      · have h30' : decide ((C : Int) ≤ 30) = false := by simp; omega
        rw [decide_eq_false h30, Bool.false_and] at hRR
        replace hRR := Lib.hid hRR
        go_wp2_with fail
        refine hcn.out.mono ?_
        rintro e w2 ⟨rfl, hb2⟩
        replace hb2 := Lib.hid (below_on hbel.out hb2)
        go_wp2_with fail
        go_ret
        exact ⟨ret_bool hRR.out, hb0.out.trans (hb2.out.mono hb0.out.size)⟩
end Go.Proofs.YtiidjkhkcckmkaaGreatDoor

/- Layer 9: the document's End and Feed. -/
namespace Go.Proofs.YtiidjkhkcckmkaaGreatDoor
set_option linter.unusedSimpArgs false
set_option linter.unusedVariables false
open Go.RowKit Go.Lib
set_option maxHeartbeats 1600000 in
set_option maxRecDepth 100000 in
theorem rend9_any (v : Value) (l : List Int) (w : World) (hl : l.length ≤ 100000) (hv : RI w v l) : Calls Tryz.prog 45 #[.agg #[v]] w (Makes (Nor.endI l) w) := by
  obtain ⟨p, cap, rfl⟩ := ri_form hv
  have hbox := blk_new w #[.slice p l.length cap] 26
  have hb0 := below_new w (.cells #[.slice p l.length cap] 26)
  obtain ⟨W, hW⟩ : ∃ W, w.alloc (.cells #[.slice p l.length cap] 26) = W := ⟨_, rfl⟩
  have hvW := ri_below hv hb0
  rw [hW] at hbox hb0 hvW
  have hsane := rsane9_any (.slice p l.length cap) l W hl hvW
  unfold Nor.endI
  replace hbox := Lib.hid hbox
  replace hb0 := Lib.hid hb0
  replace hvW := Lib.hid hvW
  replace hW := Lib.hid hW
  clear hv
  cases hS : Nor.saneB l with
  | true =>
    rw [if_pos rfl]
    rw [hS] at hsane
    replace hsane := Lib.hid hsane
    obtain ⟨c, hc⟩ : ∃ c, Can.composeI l = c := ⟨_, rfl⟩
    rw [hc]
    replace hc := Lib.hid hc
    clear hS
    go_enter Tryz.func45, Tryz.ntmps45
    go_upto_region 1 with (fail)
    rw [hW.out]
    have b0 := blk_cell hbox.out 0 _ rfl
    go_wp2_with fail
    refine hsane.out.mono ?_
    rintro e w2 ⟨rfl, hb2⟩
    have c2 := blk_cell (blk_below hbox.out hb2) 0 _ rfl
    have hco := rcompose_any (.slice p l.length cap) l w2 (by omega) (ri_below hvW.out hb2)
    rw [hc.out] at hco
    replace hco := Lib.hid hco
    replace hb2 := Lib.hid (hb0.out.trans (hb2.mono hb0.out.size))
    go_wp2_with fail
    refine hco.out.mono ?_
    rintro e w3 ⟨v3, rfl, ho3, hb3⟩
    have ho3' := Lib.hid (ownI_mono ho3 hb2.out.size)
    replace hb3 := Lib.hid (below_on hb2.out hb3)
    clear ho3
    go_wp2_with fail
    go_ret
    exact ⟨_, rfl, ho3'.out, hb3.out⟩
  | false =>
    rw [if_neg (by simp)]
    rw [hS] at hsane
    replace hsane := Lib.hid hsane
    clear hS
    go_enter Tryz.func45, Tryz.ntmps45
    go_upto_region 1 with (fail)
    rw [hW.out]
    have b0 := blk_cell hbox.out 0 _ rfl
    go_wp2_with fail
    refine hsane.out.mono ?_
    rintro e w2 ⟨rfl, hb2⟩
    replace hb2 := Lib.hid (hb0.out.trans (hb2.mono hb0.out.size))
    go_wp2_with fail
    go_ret
    exact ⟨_, rfl, ownI_nil _ _, hb2.out⟩
def FedRes (p : List Int × List Int) (w : World) (e : Ending) (w' : World) : Prop := ∃ va vb, e = .returned (.tuple #[.agg #[va], vb]) ∧ OwnI w.heap.size va p.1 w' ∧ RI w' vb p.2 ∧ Below w.heap.size w w'
def FedOwn (p : List Int × List Int) (w : World) (e : Ending) (w' : World) : Prop := ∃ va vb, e = .returned (.tuple #[.agg #[va], vb]) ∧ OwnI w.heap.size va p.1 w' ∧ OwnI w.heap.size vb p.2 w' ∧ Below w.heap.size w w'
set_option maxHeartbeats 6400000 in
set_option maxRecDepth 100000 in
theorem rfeed9_own (v : Value) (l : List Int) (r : Int) (w : World) (hl : l.length ≤ 100000) (hv : RI w v l) : Calls Tryz.prog 35 #[.agg #[v], .int .i64 r] w (FedOwn (Nor.feedI l r) w) := by
  obtain ⟨i0, hi, hz0, hz1, hz2⟩ := info_parts info_i
  obtain ⟨p, cap, rfl⟩ := ri_form hv
  have hbox0 := blk_new w #[.slice p l.length cap] 26
  have hbox := blk_alloc hbox0 (.cells #[.slice none 0 0] 26)
  have hres := blk_new (w.alloc (.cells #[.slice p l.length cap] 26)) #[.slice none 0 0] 26
  rw [show (w.alloc (.cells #[.slice p l.length cap] 26)).heap.size = w.heap.size + 1 by simp] at hres
  have hb0 : Below w.heap.size w ((w.alloc (.cells #[.slice p l.length cap] 26)).alloc (.cells #[.slice none 0 0] 26)) := (below_new w _).alloc (by simp) _
  obtain ⟨W, hW⟩ : ∃ W, (w.alloc (.cells #[.slice p l.length cap] 26)).alloc (.cells #[.slice none 0 0] 26) = W := ⟨_, rfl⟩
  have hvW := ri_below hv hb0
  rw [hW] at hbox hres hb0 hvW
  have hsane := rsane9_any (.slice p l.length cap) l W hl hvW
  have hfull := Lib.hid (rfull_free r)
  unfold Nor.feedI
  obtain ⟨D, hD⟩ : ∃ D, Dcp.fullI r = D := ⟨_, rfl⟩
  have hD4 := (Dcp.full_len r).2
  have hD1 := (Dcp.full_len r).1
  rw [hD] at hfull hD4 hD1 ⊢
  replace hbox := Lib.hid hbox
  replace hres := Lib.hid hres
  replace hb0 := Lib.hid hb0
  replace hvW := Lib.hid hvW
  replace hW := Lib.hid hW
  clear hv hbox0 hD
  cases hS : Nor.saneB l with
  | true =>
    rw [if_pos rfl]
    rw [hS] at hsane
    replace hsane := Lib.hid hsane
    obtain ⟨P, hP⟩ : ∃ P, Nor.runI l D = P := ⟨_, rfl⟩
    have hsum := Nor.run_sum l
    rw [hP]
    replace hP := Lib.hid hP
    replace hsum := Lib.hid hsum
    clear hS
    go_enter Tryz.func35, Tryz.ntmps35
    go_upto_region 1 with (fail)
    rw [hW.out]
    have b0 := blk_cell hbox.out 0 _ rfl
    go_wp2_with fail
    refine hsane.out.mono ?_
    rintro e w2 ⟨rfl, hb2⟩
    have c2 := blk_cell (blk_below hbox.out hb2) 0 _ rfl
    have hv2 := Lib.hid (ri_below hvW.out hb2)
    have hr2 := Lib.hid (blk_below hres.out hb2)
    replace hb2 := Lib.hid hb2
    clear b0
    go_wp2_with fail
    refine (hfull.out _).mono ?_
    rintro e w3 ⟨vD, rfl, hvD, hb3⟩
    obtain ⟨pD, cD, rfl⟩ := ri_form hvD
    have hv3 := Lib.hid (ri_below hv2.out hb3)
    have hr3 := Lib.hid (blk_below hr2.out hb3)
    replace hb3 := Lib.hid (hb2.out.trans (hb3.mono hb2.out.size))
    replace hvD := Lib.hid hvD
    clear c2
    go_wp2_with fail
    go_loopg [6, 7, 9] D.length (fun g vl vo vi wr => ∃ k : Nat, k ≤ D.length ∧ vi = .int .i64 k ∧ g = D.length - k ∧ RI wr vl (Nor.runI l (D.take k)).1 ∧ (k = 0 ∨ OwnI w3.heap.size vl (Nor.runI l (D.take k)).1 wr) ∧ OwnI w3.heap.size vo (Nor.runI l (D.take k)).2 wr ∧ Below w3.heap.size w3 wr)
    case atStart => exact ⟨0, Nat.zero_le _, rfl, rfl, hv3.out, .inl rfl, ownI_nil _ _, Below.refl _ _⟩
    case round =>
      obtain ⟨k, hk, rfl, rfl, hvl, hvo, hown, hbel⟩ := hrel
      by_cases hlt : k < D.length
      · have hlt' : (k : Int) < (D.length : Int) := by omega
        obtain ⟨b, off, rfl, hb, hcell⟩ := ri_at hvD.out (by omega)
        have hc : wr.cell? ⟨b, off + k, none⟩ = some (.int .i64 D[k]) := (hbel.cell hb).trans (hcell k hlt)
        have hsn : D.take (k + 1) = D.take k ++ [D[k]] := by rw [List.take_succ_eq_append_getElem hlt]
        have hstep := run_snoc l (D.take k) D[k]
        rw [← hsn] at hstep
        have hsz := hsum.out (D.take k)
        have hsz2 := hsum.out (D.take (k + 1))
        rw [hstep] at hsz2
        obtain ⟨d, hd⟩ : ∃ d, D[k] = d := ⟨_, rfl⟩
        rw [hd] at hc hstep hsz2
        obtain ⟨m, hm⟩ : ∃ m, (Nor.runI l (D.take k)).1 = m := ⟨_, rfl⟩
        obtain ⟨o, ho⟩ : ∃ o, (Nor.runI l (D.take k)).2 = o := ⟨_, rfl⟩
        rw [hm] at hvl hstep hsz hsz2
        rw [ho] at hown hstep hsz hsz2
        simp only [List.length_take, List.length_append] at hsz hsz2
        have hput := rput9_any _ m d wr (by omega) hvl
        obtain ⟨q, hq⟩ : ∃ q, Nor.putI m d = q := ⟨_, rfl⟩
        rw [hq] at hput hstep hsz2
        obtain ⟨q1, q2⟩ := q
        have ho1 : o.length ≤ 200000 := by omega
        have hq1 : q2.length ≤ 200000 := by dsimp only at hsz2; omega
        replace hput := Lib.hid hput
        replace hstep := Lib.hid hstep
        replace hown := Lib.hid hown
        replace hbel := Lib.hid hbel
        clear hcell hsn hd hm ho hq hsz hsz2 hvl hvo
        go_wp2_with fail
        refine hput.out.mono ?_
        rintro e w5 ⟨va, vb, rfl, ha, hbb, hb5⟩
        have ho5 := Lib.hid (ownI_below hown.out hb5)
        have hs5 := Lib.hid (ri_src hbb)
        have hB5 := Lib.hid (hbel.out.trans (hb5.mono hbel.out.size))
        replace ha := Lib.hid ha
        clear hb5 hbb
        go_wp2_with (at_builtin; refine wpList_append_src rfl _ _ 24 rfl w3.heap.size 3 i0 (.int .i64 0) 8 Tryz.underlying24 hi hz0 hz1 hz2 rfl _ _ _ rfl ho5.out _ _ rfl hs5.out (oneCellI _) (by simp only [List.length_map, List.length_append, List.length_take, List.length_drop, List.length_cons, List.length_nil, List.length_singleton]; unfold maxLen; omega) (by simp only [List.length_map, List.length_append, List.length_take, List.length_drop, List.length_cons, List.length_nil, List.length_singleton]; omega) hB5.out.size ?_; intro v6 w6 ho6 hg6; have o6 := Lib.hid (ownI_of_row (l := o ++ q2) ho6 (by (try simp); try omega) (by (try simp); try omega)); have b6 := Lib.hid (below_row hB5.out hg6 hB5.out.size ho5.out (Nat.le_refl _)); have ha6 := Lib.hid (World.ownsRow.kept ha.out hg6 (own_apart ha.out hown.out)); clear ho6 hg6)
        go_roundg (D.length - (k + 1))
        case measure => omega
        case rel => exact ⟨k + 1, by omega, by go_num, rfl, by rw [hstep.out]; exact ri_of_own ha6.out, .inr (by rw [hstep.out]; exact ownI_mono ha6.out hbel.out.size), by rw [hstep.out]; exact o6.out, b6.out⟩
      · obtain rfl : k = D.length := by omega
        have hlt' : decide ((D.length : Int) < (D.length : Int)) = false := by simp
        rw [List.take_length, hP.out] at hvl hown hvo
        have hvo := hvo.resolve_left (by omega)
        obtain ⟨p6, c6, rfl⟩ := ri_form hvl
        have hbW := hb3.out.trans (hbel.mono hb3.out.size)
        have hrw := blk_below hres.out hbW
        have c4 := blk_cell hrw 0 _ rfl
        have f4 := blk_thaw hrw 0
        have hfin := Lib.hid (blk_set (u := .slice p6 P.1.length c6) hrw)
        have hwk : w.heap.size + 1 < w3.heap.size := Nat.lt_of_lt_of_le (blk_lt hres.out) hb3.out.size
        have hv9 := Lib.hid (ownI_mono (ownI_set hvo ⟨w.heap.size + 1, 0, none⟩ (.slice p6 P.1.length c6) (ownI_ne hvo hwk)) (Nat.le_trans (Nat.le_succ _) (Nat.le_of_lt hwk)))
        have ho9 := Lib.hid (ownI_mono (ownI_set hown ⟨w.heap.size + 1, 0, none⟩ (.slice p6 P.1.length c6) (ownI_ne hown hwk)) (Nat.le_trans (Nat.le_succ _) (Nat.le_of_lt hwk)))
        have hb9 := Lib.hid (hb0.out.trans (hbW.mono hb0.out.size))
        replace hrw := Lib.hid hrw
        clear hvl hvo hown hbW hbel
        go_wp2_with fail
        have c9 := blk_cell hfin.out 0 _ rfl
        refine bodyPost_ret (v := .tuple #[.agg #[.slice p6 P.1.length c6], _]) ?_ rfl ⟨_, _, rfl, hv9.out, ho9.out, hb9.out.setCell (by simp) _⟩
        simp [results, Tryz.results35, go_sem, c9]
  | false =>
    rw [if_neg (by simp)]
    rw [hS] at hsane
    replace hsane := Lib.hid hsane
    obtain ⟨P, hP⟩ : ∃ P, Nor.runI [] D = P := ⟨_, rfl⟩
    have hsum := Nor.run_sum []
    simp only [List.length_nil, Nat.zero_add] at hsum
    rw [hP]
    replace hP := Lib.hid hP
    replace hsum := Lib.hid hsum
    clear hS
    go_enter Tryz.func35, Tryz.ntmps35
    go_upto_region 1 with (fail)
    rw [hW.out]
    have b0 := blk_cell hbox.out 0 _ rfl
    go_wp2_with fail
    refine hsane.out.mono ?_
    rintro e w2 ⟨rfl, hb2⟩
    have hbx2 := blk_below hbox.out hb2
    have c2 := blk_cell hbx2 0 _ rfl
    have f2 := blk_thaw hbx2 0
    have hn2 := blk_set (u := .slice none 0 0) hbx2
    have d2 := blk_cell hn2 0 _ rfl
    have hr2 := Lib.hid (blk_other (j := w.heap.size) (u := .slice none 0 0) (blk_below hres.out hb2) (by omega))
    have hbm := hb0.out.trans (hb2.mono hb0.out.size)
    have hbs := Lib.hid (hbm.setCell (p := ⟨w.heap.size, 0, none⟩) (Nat.le_refl _) (.slice none 0 0))
    clear b0 hbx2 hn2 hbm hb2
    go_upto_region 5 with (fail)
    generalize hwq : w2.setCell ⟨w.heap.size, 0, none⟩ (.slice none 0 0) = wq at *
    clear hres hb0 hbox hvW hwq
    have hres := hr2
    have hb0 := hbs
    clear hr2 hbs
    go_wp2_with fail
    refine (hfull.out _).mono ?_
    rintro e w3 ⟨vD, rfl, hvD, hb3⟩
    obtain ⟨pD, cD, rfl⟩ := ri_form hvD
    have hv3 := Lib.hid (ri_nil w3)
    replace hb3 := Lib.hid hb3
    replace hvD := Lib.hid hvD
    clear d2
    go_wp2_with fail
    go_loopg [6, 7, 9] D.length (fun g vl vo vi wr => ∃ k : Nat, k ≤ D.length ∧ vi = .int .i64 k ∧ g = D.length - k ∧ RI wr vl (Nor.runI [] (D.take k)).1 ∧ (k = 0 ∨ OwnI w3.heap.size vl (Nor.runI [] (D.take k)).1 wr) ∧ OwnI w3.heap.size vo (Nor.runI [] (D.take k)).2 wr ∧ Below w3.heap.size w3 wr)
    case atStart => exact ⟨0, Nat.zero_le _, rfl, rfl, hv3.out, .inl rfl, ownI_nil _ _, Below.refl _ _⟩
    case round =>
      obtain ⟨k, hk, rfl, rfl, hvl, hvo, hown, hbel⟩ := hrel
      by_cases hlt : k < D.length
      · have hlt' : (k : Int) < (D.length : Int) := by omega
        obtain ⟨b, off, rfl, hb, hcell⟩ := ri_at hvD.out (by omega)
        have hc : wr.cell? ⟨b, off + k, none⟩ = some (.int .i64 D[k]) := (hbel.cell hb).trans (hcell k hlt)
        have hsn : D.take (k + 1) = D.take k ++ [D[k]] := by rw [List.take_succ_eq_append_getElem hlt]
        have hstep := run_snoc [] (D.take k) D[k]
        rw [← hsn] at hstep
        have hsz := hsum.out (D.take k)
        have hsz2 := hsum.out (D.take (k + 1))
        rw [hstep] at hsz2
        obtain ⟨d, hd⟩ : ∃ d, D[k] = d := ⟨_, rfl⟩
        rw [hd] at hc hstep hsz2
        obtain ⟨m, hm⟩ : ∃ m, (Nor.runI [] (D.take k)).1 = m := ⟨_, rfl⟩
        obtain ⟨o, ho⟩ : ∃ o, (Nor.runI [] (D.take k)).2 = o := ⟨_, rfl⟩
        rw [hm] at hvl hstep hsz hsz2
        rw [ho] at hown hstep hsz hsz2
        simp only [List.length_take, List.length_append] at hsz hsz2
        have hput := rput9_any _ m d wr (by omega) hvl
        obtain ⟨q, hq⟩ : ∃ q, Nor.putI m d = q := ⟨_, rfl⟩
        rw [hq] at hput hstep hsz2
        obtain ⟨q1, q2⟩ := q
        have ho1 : o.length ≤ 200000 := by omega
        have hq1 : q2.length ≤ 200000 := by dsimp only at hsz2; omega
        replace hput := Lib.hid hput
        replace hstep := Lib.hid hstep
        replace hown := Lib.hid hown
        replace hbel := Lib.hid hbel
        clear hcell hsn hd hm ho hq hsz hsz2 hvl hvo
        go_wp2_with fail
        refine hput.out.mono ?_
        rintro e w5 ⟨va, vb, rfl, ha, hbb, hb5⟩
        have ho5 := Lib.hid (ownI_below hown.out hb5)
        have hs5 := Lib.hid (ri_src hbb)
        have hB5 := Lib.hid (hbel.out.trans (hb5.mono hbel.out.size))
        replace ha := Lib.hid ha
        clear hb5 hbb
        go_wp2_with (at_builtin; refine wpList_append_src rfl _ _ 24 rfl w3.heap.size 3 i0 (.int .i64 0) 8 Tryz.underlying24 hi hz0 hz1 hz2 rfl _ _ _ rfl ho5.out _ _ rfl hs5.out (oneCellI _) (by simp only [List.length_map, List.length_append, List.length_take, List.length_drop, List.length_cons, List.length_nil, List.length_singleton]; unfold maxLen; omega) (by simp only [List.length_map, List.length_append, List.length_take, List.length_drop, List.length_cons, List.length_nil, List.length_singleton]; omega) hB5.out.size ?_; intro v6 w6 ho6 hg6; have o6 := Lib.hid (ownI_of_row (l := o ++ q2) ho6 (by (try simp); try omega) (by (try simp); try omega)); have b6 := Lib.hid (below_row hB5.out hg6 hB5.out.size ho5.out (Nat.le_refl _)); have ha6 := Lib.hid (World.ownsRow.kept ha.out hg6 (own_apart ha.out hown.out)); clear ho6 hg6)
        go_roundg (D.length - (k + 1))
        case measure => omega
        case rel => exact ⟨k + 1, by omega, by go_num, rfl, by rw [hstep.out]; exact ri_of_own ha6.out, .inr (by rw [hstep.out]; exact ownI_mono ha6.out hbel.out.size), by rw [hstep.out]; exact o6.out, b6.out⟩
      · obtain rfl : k = D.length := by omega
        have hlt' : decide ((D.length : Int) < (D.length : Int)) = false := by simp
        rw [List.take_length, hP.out] at hvl hown hvo
        have hvo := hvo.resolve_left (by omega)
        obtain ⟨p6, c6, rfl⟩ := ri_form hvl
        have hbW := hb3.out.trans (hbel.mono hb3.out.size)
        have hrw := blk_below hres.out hbW
        have c4 := blk_cell hrw 0 _ rfl
        have f4 := blk_thaw hrw 0
        have hfin := Lib.hid (blk_set (u := .slice p6 P.1.length c6) hrw)
        have hwk : w.heap.size + 1 < w3.heap.size := Nat.lt_of_lt_of_le (blk_lt hres.out) hb3.out.size
        have hv9 := Lib.hid (ownI_mono (ownI_set hvo ⟨w.heap.size + 1, 0, none⟩ (.slice p6 P.1.length c6) (ownI_ne hvo hwk)) (Nat.le_trans (Nat.le_succ _) (Nat.le_of_lt hwk)))
        have ho9 := Lib.hid (ownI_mono (ownI_set hown ⟨w.heap.size + 1, 0, none⟩ (.slice p6 P.1.length c6) (ownI_ne hown hwk)) (Nat.le_trans (Nat.le_succ _) (Nat.le_of_lt hwk)))
        have hb9 := Lib.hid (hb0.out.trans (hbW.mono hb0.out.size))
        replace hrw := Lib.hid hrw
        clear hvl hvo hown hbW hbel
        go_wp2_with fail
        have c9 := blk_cell hfin.out 0 _ rfl
        refine bodyPost_ret (v := .tuple #[.agg #[.slice p6 P.1.length c6], _]) ?_ rfl ⟨_, _, rfl, hv9.out, ho9.out, hb9.out.setCell (by simp) _⟩
        simp [results, Tryz.results35, go_sem, c9]
theorem rfeed9_any (v : Value) (l : List Int) (r : Int) (w : World) (hl : l.length ≤ 100000) (hv : RI w v l) : Calls Tryz.prog 35 #[.agg #[v], .int .i64 r] w (FedRes (Nor.feedI l r) w) := (rfeed9_own v l r w hl hv).mono fun e w' ⟨va, vb, he, ha, hb, hw⟩ => ⟨va, vb, he, ha, ri_of_own hb, hw⟩
end Go.Proofs.YtiidjkhkcckmkaaGreatDoor

