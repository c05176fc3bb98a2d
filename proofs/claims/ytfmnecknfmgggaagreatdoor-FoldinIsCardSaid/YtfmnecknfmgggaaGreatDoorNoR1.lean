/- Layer 9: the document's marks, head, put. -/
import Derived.Test.YtfmnecknfmgggaaGreatDoorCnR3
import Derived.Test.YtfmnecknfmgggaaGreatDoorDeR3
import Derived.Test.YtfmnecknfmgggaaGreatDoorNoM
namespace Go.Proofs.YtfmnecknfmgggaaGreatDoor
set_option linter.unusedSimpArgs false
set_option linter.unusedVariables false
open Go.RowKit Go.Lib

theorem rjoin_yes (a b x : Int) (h : Par.joinI a b = some x) (w : World) : Calls Tryz.prog 87 #[.int .i64 a, .int .i64 b] w fun e w' => e = .returned (.tuple #[.int .i64 x, .bool true]) ∧ w = w' := by
  have := rjoin_any a b w
  rw [h] at this
  exact this
theorem rjoin_not (a b : Int) (h : Par.joinI a b = none) (w : World) : Calls Tryz.prog 87 #[.int .i64 a, .int .i64 b] w fun e w' => e = .returned (.tuple #[.int .i64 0, .bool false]) ∧ w = w' := by
  have := rjoin_any a b w
  rw [h] at this
  exact this

theorem cnt_snoc (l : List Int) (x : Int) : Nor.cntI (l ++ [x]) = Nor.cntI l + if Prp.mrkB x = true then 1 else 0 := by
  unfold Nor.cntI
  rw [List.filter_append, List.length_append]
  split <;> simp_all

set_option maxHeartbeats 1600000 in
set_option maxRecDepth 100000 in
theorem rcount_any (v : Value) (l : List Int) (w : World) (hl : l.length ≤ 1000000) (hv : RI w v l) : Calls Tryz.prog 38 #[v] w fun e w' => e = .returned (.int .i64 (Nor.cntI l : Nat)) ∧ Below w.heap.size w w' := by
  obtain ⟨p, cap, rfl⟩ := ri_form hv
  replace hv := Lib.hid hv
  go_enter Tryz.func38, Tryz.ntmps38
  go_wp2_with fail
  go_loopg [3, 4] l.length (fun g va vi wr => ∃ k a : Nat, k ≤ l.length ∧ va = .int .i64 a ∧ vi = .int .i64 k ∧ g = l.length - k ∧ a ≤ k ∧ Hid (Nor.cntI (l.take k) = a) ∧ Below w.heap.size w wr)
  case atStart => exact ⟨0, 0, Nat.zero_le _, rfl, rfl, rfl, Nat.le_refl _, Lib.hid rfl, Below.refl _ _⟩
  case round =>
    obtain ⟨k, a, hk, rfl, rfl, rfl, hak, hcnt, hbel⟩ := hrel
    by_cases hlt : k < l.length
    · have hlt' : (k : Int) < (l.length : Int) := by omega
      obtain ⟨b, off, rfl, hb, hcell⟩ := ri_at hv.out (by omega)
      have hc : wr.cell? ⟨b, off + k, none⟩ = some (.int .i64 l[k]) := (hbel.cell hb).trans (hcell k hlt)
      have hs := cnt_snoc (l.take k) l[k]
      rw [← List.take_succ_eq_append_getElem hlt, hcnt.out] at hs
      obtain ⟨x, hx⟩ : ∃ x, l[k] = x := ⟨_, rfl⟩
      rw [hx] at hc hs
      have hmx := rmark_any x
      cases hmb : Prp.mrkB x with
      | true =>
        rw [hmb] at hmx hs
        simp only [if_true] at hs
        replace hmx := Lib.hid hmx
        replace hs := Lib.hid hs
        replace hbel := Lib.hid hbel
        clear hcell hx hmb hcnt
        go_wp2_with fail
        refine (hmx.out _).mono ?_
        rintro e w2 ⟨rfl, hb2⟩
        replace hb2 := Lib.hid (below_on hbel.out hb2)
        go_wp2_with fail
        go_roundg (l.length - (k + 1))
        case measure => omega
        case rel => exact ⟨k + 1, a + 1, by omega, by go_num, by go_num, rfl, by omega, hs, hb2.out⟩
      | false =>
        rw [hmb] at hmx hs
        simp only [Bool.false_eq_true, if_false, Nat.add_zero] at hs
        replace hmx := Lib.hid hmx
        replace hs := Lib.hid hs
        replace hbel := Lib.hid hbel
        clear hcell hx hmb hcnt
        go_wp2_with fail
        refine (hmx.out _).mono ?_
        rintro e w2 ⟨rfl, hb2⟩
        replace hb2 := Lib.hid (below_on hbel.out hb2)
        go_wp2_with fail
        go_roundg (l.length - (k + 1))
        case measure => omega
        case rel => exact ⟨k + 1, a, by omega, rfl, by go_num, rfl, by omega, hs, hb2.out⟩
    · obtain rfl : k = l.length := by omega
      have hlt' : decide ((l.length : Int) < (l.length : Int)) = false := by simp
      have hM2 := hcnt.out
      rw [List.take_length] at hM2
      replace hM2 := Lib.hid hM2
      replace hbel := Lib.hid hbel
      clear hcnt
      go_wp2_with fail
      go_ret
      exact ⟨by rw [hM2.out]; rfl, hbel.out⟩

/-- two lists that a call tells -/
def Two (p : List Int × List Int) (w : World) (e : Ending) (w' : World) : Prop := ∃ va vb, e = .returned (.tuple #[va, vb]) ∧ OwnI w.heap.size va p.1 w' ∧ RI w' vb p.2 ∧ Below w.heap.size w w'

theorem two_of {p q : List Int × List Int} (h : p = q) {w : World} {e : Ending} {w' : World} (x : Two p w e w') : Two q w e w' := h ▸ x

theorem head_one {l : List Int} {x d : Int} (h : Can.composeI l = [x]) (hx : Prp.mrkB x = false) : Nor.headI l d = match Par.joinI x d with | some v => ([v], []) | none => ([d], [x]) := by
  unfold Nor.headI
  rw [h]
  simp only [hx, if_true]
  cases Par.joinI x d <;> rfl
theorem head_mark9r {l : List Int} {x d : Int} (h : Can.composeI l = [x]) (hx : Prp.mrkB x = true) : Nor.headI l d = ([d], [x]) := by
  unfold Nor.headI
  rw [h]
  simp [hx]
theorem head_more {l : List Int} {d : Int} (h : (Can.composeI l).length ≠ 1) : Nor.headI l d = ([d], Can.composeI l) := by
  unfold Nor.headI
  split
  · rename_i x e
    rw [e] at h
    simp at h
  · rfl

set_option maxHeartbeats 3200000 in
set_option maxRecDepth 100000 in
theorem rhead_any (v : Value) (l : List Int) (d : Int) (w : World) (hl : l.length ≤ 1000000) (hv : RI w v l) : Calls Tryz.prog 65 #[v, .int .i64 d] w (Two (Nor.headI l d) w) := by
  have hcomp := Lib.hid (rcompose_any v l w hl hv)
  have hcl := Can.compose_le l
  have h1 := fun x => @head_one l x d
  have h2 := fun x => @head_mark9r l x d
  have h3 := @head_more l d
  obtain ⟨c, hc⟩ : ∃ c, Can.composeI l = c := ⟨_, rfl⟩
  rw [hc] at hcomp hcl h1 h2 h3
  clear hc
  by_cases hc1 : c.length = 1
  · obtain ⟨x, rfl⟩ : ∃ x, c = [x] := List.length_eq_one_iff.1 hc1
    have hmx := rmark_any x
    clear hc1 h3 hcl
    cases hmb : Prp.mrkB x with
    | true =>
      rw [h2 x rfl hmb]
      rw [hmb] at hmx
      replace hmx := Lib.hid hmx
      clear h1 h2 hmb
      go_enter Tryz.func65, Tryz.ntmps65
      go_wp2_with fail
      refine hcomp.out.mono ?_
      rintro e w1 ⟨v1, rfl, ho1, hb1⟩
      obtain ⟨g, cp, rfl, _, hg, hcell⟩ := ownI_open ho1 (by simp)
      have c0 := hcell 0 (by simp)
      simp only [List.length_singleton, List.getElem_cons_zero] at c0 ho1 ⊢
      have ho1' := Lib.hid ho1
      replace hb1 := Lib.hid hb1
      clear hcell ho1
      go_wp2_with fail
      refine (hmx.out _).mono ?_
      rintro e w2 ⟨rfl, hb2⟩
      have ho2 := Lib.hid (ri_of_own (ownI_below ho1'.out hb2))
      replace hb2 := Lib.hid (below_on hb1.out hb2)
      go_wp2_with fail
      go_ret2
      exact ⟨_, _, rfl, (ownI_lit w.heap.size w2 [d] #[.int .i64 d] _ 1 rfl hb2.out.size rfl rfl (by unfold maxLen; omega)), ri_below ho2.out (below_new w2 _), hb2.out.alloc hb2.out.size _⟩
    | false =>
      have hh := h1 x rfl hmb
      rw [hmb] at hmx
      replace hmx := Lib.hid hmx
      clear h1 h2 hmb
      cases hj : Par.joinI x d with
      | none =>
        rw [hj] at hh
        rw [hh]
        have hjr := Lib.hid (rjoin_not x d hj)
        clear hh hj
        go_enter Tryz.func65, Tryz.ntmps65
        go_wp2_with fail
        refine hcomp.out.mono ?_
        rintro e w1 ⟨v1, rfl, ho1, hb1⟩
        obtain ⟨g, cp, rfl, _, hg, hcell⟩ := ownI_open ho1 (by simp)
        have c0 := hcell 0 (by simp)
        simp only [List.length_singleton, List.getElem_cons_zero] at c0 ho1 ⊢
        have ho1' := Lib.hid ho1
        replace hb1 := Lib.hid hb1
        clear hcell ho1
        go_wp2_with fail
        refine (hmx.out _).mono ?_
        rintro e w2 ⟨rfl, hb2⟩
        have ho2 := Lib.hid (ri_of_own (ownI_below ho1'.out hb2))
        have c2 : w2.cell? ⟨g, 0, none⟩ = some (.int .i64 x) := (hb2.cell hg).trans c0
        replace hb2 := Lib.hid (below_on hb1.out hb2)
        go_wp2_with fail
        refine (hjr.out _).mono ?_
        rintro e w3 ⟨rfl, rfl⟩
        go_wp2_with fail
        go_ret2
        exact ⟨_, _, rfl, (ownI_lit w.heap.size w2 [d] #[.int .i64 d] _ 1 rfl hb2.out.size rfl rfl (by unfold maxLen; omega)), ri_below ho2.out (below_new w2 _), hb2.out.alloc hb2.out.size _⟩
      | some y =>
        rw [hj] at hh
        rw [hh]
        have hjr := Lib.hid (rjoin_yes x d y hj)
        clear hh hj
        go_enter Tryz.func65, Tryz.ntmps65
        go_wp2_with fail
        refine hcomp.out.mono ?_
        rintro e w1 ⟨v1, rfl, ho1, hb1⟩
        obtain ⟨g, cp, rfl, _, hg, hcell⟩ := ownI_open ho1 (by simp)
        have c0 := hcell 0 (by simp)
        simp only [List.length_singleton, List.getElem_cons_zero] at c0 ho1 ⊢
        replace hb1 := Lib.hid hb1
        clear hcell ho1
        go_wp2_with fail
        refine (hmx.out _).mono ?_
        rintro e w2 ⟨rfl, hb2⟩
        have c2 : w2.cell? ⟨g, 0, none⟩ = some (.int .i64 x) := (hb2.cell hg).trans c0
        replace hb2 := Lib.hid (below_on hb1.out hb2)
        go_wp2_with fail
        refine (hjr.out _).mono ?_
        rintro e w3 ⟨rfl, rfl⟩
        go_wp2_with fail
        go_ret2
        exact ⟨_, _, rfl, (ownI_lit w.heap.size w2 [y] #[.int .i64 y] _ 1 rfl hb2.out.size rfl rfl (by unfold maxLen; omega)), ri_nil _, hb2.out.alloc hb2.out.size _⟩
  · rw [h3 hc1]
    have hc1' : ((c.length : Int) == 1) = false := beq_eq_false_iff_ne.2 (by omega)
    clear h1 h2 h3 hc1
    go_enter Tryz.func65, Tryz.ntmps65
    go_wp2_with fail
    refine hcomp.out.mono ?_
    rintro e w1 ⟨v1, rfl, ho1, hb1⟩
    obtain ⟨p, cp, rfl⟩ := ri_form (ri_of_own ho1)
    have ho1' := Lib.hid ho1
    replace hb1 := Lib.hid hb1
    clear ho1
    go_wp2_with fail
    go_ret2
    exact ⟨_, _, rfl, (ownI_lit w.heap.size w1 [d] #[.int .i64 d] _ 1 rfl hb1.out.size rfl rfl (by unfold maxLen; omega)), ri_below (ri_of_own ho1'.out) (below_new w1 _), hb1.out.alloc hb1.out.size _⟩

theorem ins_eq (l : List Int) (d : Int) : Nor.insI l d = Can.insF l d := rfl

set_option maxHeartbeats 3200000 in
set_option maxRecDepth 100000 in
theorem rput_any (v : Value) (l : List Int) (d : Int) (w : World) (hl : l.length ≤ 1000000) (hv : RI w v l) : Calls Tryz.prog 41 #[v, .int .i64 d] w (Two (Nor.putI l d) w) := by
  have hmd := rmark_any d
  unfold Nor.putI
  cases hmb : Prp.mrkB d with
  | false =>
    rw [if_neg (by simp)]
    rw [hmb] at hmd
    replace hmd := Lib.hid hmd
    replace hv := Lib.hid hv
    obtain ⟨p, hp⟩ : ∃ p, Nor.headI l d = p := ⟨_, rfl⟩
    rw [hp]
    replace hp := Lib.hid hp
    clear hmb
    go_enter Tryz.func41, Tryz.ntmps41
    go_wp2_with fail
    refine (hmd.out _).mono ?_
    rintro e w1 ⟨rfl, hb1⟩
    have hh := rhead_any v l d w1 hl (ri_below hv.out hb1)
    rw [hp.out] at hh
    replace hh := Lib.hid hh
    replace hb1 := Lib.hid hb1
    go_wp2_with fail
    refine hh.out.mono ?_
    rintro e w2 ⟨va, vb, rfl, ha, hbb, hb2⟩
    replace ha := Lib.hid (ownI_mono ha hb1.out.size)
    replace hbb := Lib.hid hbb
    replace hb2 := Lib.hid (below_on hb1.out hb2)
    go_wp2_with fail
    go_ret2
    exact ⟨_, _, rfl, ha.out, hbb.out, hb2.out⟩
  | true =>
    rw [if_pos rfl]
    rw [hmb] at hmd
    replace hmd := Lib.hid hmd
    replace hv := Lib.hid hv
    clear hmb
    by_cases h30 : Nor.cntI l = 30
    · rw [if_pos h30, Nor.head847]
      have hp := Nor.head847 l
      rw [ins_eq]
      obtain ⟨q, hq⟩ : ∃ q, Can.composeI l = q := ⟨_, rfl⟩
      rw [hq] at hp ⊢
      obtain ⟨u, hu⟩ : ∃ u, Can.insF [847] d = u := ⟨_, rfl⟩
      rw [hu]
      replace hp := Lib.hid hp
      replace hq := Lib.hid hq
      replace hu := Lib.hid hu
      replace h30 := Lib.hid h30
      go_enter Tryz.func41, Tryz.ntmps41
      go_wp2_with fail
      refine (hmd.out _).mono ?_
      rintro e w1 ⟨rfl, hb1⟩
      have hcn := rcount_any v l w1 hl (ri_below hv.out hb1)
      rw [h30.out] at hcn
      replace hcn := Lib.hid hcn
      replace hb1 := Lib.hid hb1
      go_wp2_with fail
      refine hcn.out.mono ?_
      rintro e w2 ⟨rfl, hb2⟩
      replace hb2 := Lib.hid (below_on hb1.out hb2)
      have hh := rhead_any v l 847 w2 hl (ri_below hv.out hb2.out)
      rw [hp.out] at hh
      replace hh := Lib.hid hh
      go_wp2_with fail
      refine hh.out.mono ?_
      rintro e w3 ⟨va, vb, rfl, ha, hbb, hb3⟩
      have hins := rinsert_any va [847] d w3 (by simp) (ri_of_own ha)
      rw [hu.out] at hins
      replace hins := Lib.hid hins
      replace hbb := Lib.hid hbb
      replace hb3 := Lib.hid (below_on hb2.out hb3)
      clear ha
      go_wp2_with fail
      refine hins.out.mono ?_
      rintro e w4 ⟨v4, rfl, ho4, hb4⟩
      have hbb4 := Lib.hid (ri_below hbb.out hb4)
      have ho4' := Lib.hid (ownI_mono ho4 hb3.out.size)
      replace hb4 := Lib.hid (below_on hb3.out hb4)
      clear ho4
      go_wp2_with fail
      go_ret2
      exact ⟨_, _, rfl, ho4'.out, hbb4.out, hb4.out⟩
    · rw [if_neg h30, ins_eq]
      have h30' : ((Nor.cntI l : Int) == 30) = false := beq_eq_false_iff_ne.2 (by omega)
      obtain ⟨c, hc⟩ : ∃ c, Nor.cntI l = c := ⟨_, rfl⟩
      rw [hc] at h30'
      obtain ⟨u, hu⟩ : ∃ u, Can.insF l d = u := ⟨_, rfl⟩
      rw [hu]
      replace hc := Lib.hid hc
      replace hu := Lib.hid hu
      clear h30
      go_enter Tryz.func41, Tryz.ntmps41
      go_wp2_with fail
      refine (hmd.out _).mono ?_
      rintro e w1 ⟨rfl, hb1⟩
      have hcn := rcount_any v l w1 hl (ri_below hv.out hb1)
      rw [hc.out] at hcn
      replace hcn := Lib.hid hcn
      replace hb1 := Lib.hid hb1
      go_wp2_with fail
      refine hcn.out.mono ?_
      rintro e w2 ⟨rfl, hb2⟩
      replace hb2 := Lib.hid (below_on hb1.out hb2)
      have hins := rinsert_any v l d w2 hl (ri_below hv.out hb2.out)
      rw [hu.out] at hins
      replace hins := Lib.hid hins
      go_wp2_with fail
      refine hins.out.mono ?_
      rintro e w4 ⟨v4, rfl, ho4, hb4⟩
      have ho4' := Lib.hid (ownI_mono ho4 hb2.out.size)
      replace hb4 := Lib.hid (below_on hb2.out hb4)
      clear ho4
      go_wp2_with fail
      go_ret2
      exact ⟨_, _, rfl, ho4'.out, ri_nil _, hb4.out⟩

end Go.Proofs.YtfmnecknfmgggaaGreatDoor
