/- Layer 9: putMark. -/
import Derived.Test.YtfmnecknfmgggaaGreatDoorNoA3
namespace Go.Proofs.YtfmnecknfmgggaaGreatDoor
set_option linter.unusedSimpArgs false
set_option linter.unusedVariables false
open Go.RowKit Go.Lib


set_option maxHeartbeats 12800000 in
set_option maxRecDepth 100000 in
theorem putMark_full (B b : Nat) (g : Option Nat) (l t : List Int) (d : Int) (vl vt : Value) (w : World) (hl : Nor.Kept l) (hd : Prp.mrkB d = true) (ht : t.length ≤ 10000000) (h30 : Nor.cntI l = 30) (hp : At9 B b g w l t vl vt w) : Calls Tryz.prog 55 #[.pointer (some ⟨b, 0, none⟩), .int .i64 d] w (Puts B b g (Nor.putI l d).1 (t ++ (Nor.putI l d).2) w) := by
  have hl31 := Nor.kept_len hl
  have hcnt := Nor.kept_row hl
  unfold Nor.putI
  rw [if_pos hd]
  obtain ⟨pl, cl, rfl⟩ := ri_form (ri_of_own hp.kept)
  obtain ⟨cd, hcd⟩ : ∃ cd, Prp.cccI d = cd := ⟨_, rfl⟩
  have hcc := Lib.hid (fun W => cccOf7 d cd hcd W)
  replace hcd := Lib.hid hcd
  have hmk := nmarks_any _ l w (by omega) (ri_of_own hp.kept)
  obtain ⟨R, hR⟩ : ∃ R, Nor.rowI l = R := ⟨_, rfl⟩
  rw [hR] at hmk hcnt
  replace hmk := Lib.hid hmk
  have b0 := blk_cell hp.box 0 _ rfl
  clear hR hl hd
  rw [if_pos h30]
  rw [h30] at hcnt
  have hn30 : ((R.length : Int) == 30) = true := beq_iff_eq.2 (by omega)
  have hph := Lib.hid (fun (w1 : World) (hq : At9 B b g w1 l t (.slice pl l.length cl) vt w1) => putHead_any B b g l t 847 _ _ w1 (by omega) ht hq)
  rw [Nor.head847] at hph ⊢
  obtain ⟨c, hc⟩ : ∃ c, Can.composeI l = c := ⟨_, rfl⟩
  rw [hc] at hph ⊢
  obtain ⟨L, hL⟩ : ∃ L : List Int, [847] = L := ⟨_, rfl⟩
  rw [hL] at hph ⊢
  obtain ⟨U, hU⟩ : ∃ U, Nor.insI L d = U := ⟨_, rfl⟩
  rw [hU]
  obtain ⟨T, hT⟩ : ∃ T, t ++ c = T := ⟨_, rfl⟩
  have hL1 : L.length ≤ 1 := by rw [← hL]; exact Nat.le_refl _
  replace hU := Lib.hid hU
  replace hp := Lib.hid hp
  simp only [hT] at hph ⊢
  clear hc h30 hL hT hcnt
  go_enter Tryz.func55, Tryz.ntmps55
  go_wp2_with fail
  refine hmk.out.mono ?_
  rintro e w1 ⟨v1, rfl, hv1, hb1⟩
  obtain ⟨p1, c1, rfl⟩ := ri_form hv1
  have qa := Lib.hid (hp.out.go hb1)
  clear hv1 hb1 b0
  go_wp2_with fail
  refine (hph.out _ qa.out.here).mono ?_
  rintro e w2 ⟨rfl, vL, vt, qb⟩
  obtain ⟨pL, cL, rfl⟩ := ri_form (ri_of_own qb.kept)
  have q1 := Lib.hid (qa.out.since qb)
  clear qb qa
  go_wp2_with fail
  refine (hcc.out _).mono ?_
  rintro e w3 ⟨rfl, hb3⟩
  have q3 := Lib.hid (q1.out.here.go hb3)
  have b3 := blk_cell q3.out.box 0 _ rfl
  clear hb3
  go_wp2_with fail
  go_loopg [5] L.length (fun n vk wr => n ≤ L.length ∧ vk = .int .i64 n ∧ (∀ x ∈ L.drop n, Prp.cccI d < Prp.cccI x) ∧ Below w3.heap.size w3 wr)
  case atStart => exact ⟨Nat.le_refl _, rfl, fun x hx => by simp at hx, Below.refl _ _⟩
  case round =>
    obtain ⟨hk, rfl, hpast, hbel⟩ := hrel
    have qr := Lib.hid (q3.out.go hbel)
    have br := blk_cell qr.out.box 0 _ rfl
    replace hpast := Lib.hid hpast
    cases gk with
    | zero =>
      replace hbel := Lib.hid hbel
      clear b3
      have hins := Nor.ins_cut (d := d) (Nat.zero_le L.length) hpast.out (fun h => absurd h (Nat.lt_irrefl 0))
      have q7 := Lib.hid (qr.out.new (.cells #[.int .i64 d] 3))
      have hin := Lib.hid (insert_one B (.slice pL L.length cL) L 0 d wr.heap.size 3 (wr.alloc (.cells #[.int .i64 d] 3)) (by omega) (by omega) q7.out.kept q7.out.size (blk_new wr _ _) (fun e => by have := (World.ownsRow.lt qr.out.kept _ e).2; omega))
      rw [← hins, hU.out] at hin
      replace hins := Lib.hid hins
      have b7 := blk_cell q7.out.box 0 _ rfl
      go_wp2_with fail
      refine hin.out.mono ?_
      rintro e w6 ⟨v6, rfl, ho6, hg6, hl6⟩
      obtain ⟨p6, c6, rfl⟩ := ri_form (ri_of_own ho6)
      have q6 := Lib.hid (q7.out.grew ho6 hg6 hl6)
      have k6 := blk_grown q7.out.box hg6 (fun e => own_off q7.out.kept q7.out.box e.symm)
      have e6 := blk_cell k6 0 _ rfl
      have f6 := blk_thaw k6 0
      clear ho6 hg6 hl6 k6 b7
      go_wp2_with fail
      go_end0
      exact ⟨rfl, _, _, q1.out.since (q6.out)⟩
    | succ k =>
      obtain ⟨g0, off0, hpl, hg0, hcell⟩ := ri_at (ri_of_own qr.out.kept) (by omega)
      subst hpl
      have hc := hcell k hk
      obtain ⟨x, hx⟩ : ∃ x, L[k] = x := ⟨_, rfl⟩
      rw [hx] at hc
      obtain ⟨cx, hcx⟩ : ∃ cx, Prp.cccI x = cx := ⟨_, rfl⟩
      have hxx := Lib.hid (fun W => cccOf7 x cx hcx W)
      replace hbel := Lib.hid hbel
      have hy0 := Lib.hid hx
      replace hcx := Lib.hid hcx
      clear hcell b3 hx
      by_cases hlt : cd < cx
      · go_wp2_with fail
        refine (hxx.out _).mono ?_
        rintro e w4 ⟨rfl, hb4⟩
        replace hb4 := Lib.hid (below_on hbel.out hb4)
        go_wp2_with fail
        go_roundg k
        case measure => omega
        case rel => exact ⟨by omega, by go_num, fun y hy => by
          rw [List.drop_eq_getElem_cons hk, List.mem_cons, hy0.out] at hy
          rcases hy with rfl | hy
          · rw [hcx.out, hcd.out]; exact hlt
          · exact hpast.out y hy, hb4.out⟩
      · go_wp2_with fail
        refine (hxx.out _).mono ?_
        rintro e w4 ⟨rfl, hb4⟩
        have q4 := Lib.hid (qr.out.go hb4)
        replace hb4 := Lib.hid (below_on hbel.out hb4)
        have b4 := blk_cell q4.out.box 0 _ rfl
        clear br hc
        have hins := Nor.ins_cut (d := d) hk hpast.out (fun _ => by simp only [Nat.add_sub_cancel]; rw [hy0.out, hcx.out, hcd.out]; omega)
        have q7 := Lib.hid (q4.out.new (.cells #[.int .i64 d] 3))
        have hin := Lib.hid (insert_one B (.slice (some ⟨g0, off0, none⟩) L.length cL) L (k + 1) d w4.heap.size 3 (w4.alloc (.cells #[.int .i64 d] 3)) (by omega) (by omega) q7.out.kept q7.out.size (blk_new w4 _ _) (fun e => by have := (World.ownsRow.lt q4.out.kept _ e).2; omega))
        rw [← hins, hU.out] at hin
        replace hins := Lib.hid hins
        have b7 := blk_cell q7.out.box 0 _ rfl
        go_wp2_with fail
        refine hin.out.mono ?_
        rintro e w6 ⟨v6, rfl, ho6, hg6, hl6⟩
        obtain ⟨p6, c6, rfl⟩ := ri_form (ri_of_own ho6)
        have q6 := Lib.hid (q7.out.grew ho6 hg6 hl6)
        have k6 := blk_grown q7.out.box hg6 (fun e => own_off q7.out.kept q7.out.box e.symm)
        have e6 := blk_cell k6 0 _ rfl
        have f6 := blk_thaw k6 0
        clear ho6 hg6 hl6 k6 b7
        go_wp2_with fail
        go_end0
        exact ⟨rfl, _, _, q1.out.since (q6.out)⟩
set_option maxHeartbeats 12800000 in
set_option maxRecDepth 100000 in
theorem putMark_room (B b : Nat) (g : Option Nat) (l t : List Int) (d : Int) (vl vt : Value) (w : World) (hl : Nor.Kept l) (hd : Prp.mrkB d = true) (ht : t.length ≤ 10000000) (h30 : ¬ Nor.cntI l = 30) (hp : At9 B b g w l t vl vt w) : Calls Tryz.prog 55 #[.pointer (some ⟨b, 0, none⟩), .int .i64 d] w (Puts B b g (Nor.putI l d).1 (t ++ (Nor.putI l d).2) w) := by
  have hl31 := Nor.kept_len hl
  have hcnt := Nor.kept_row hl
  unfold Nor.putI
  rw [if_pos hd]
  obtain ⟨pl, cl, rfl⟩ := ri_form (ri_of_own hp.kept)
  obtain ⟨cd, hcd⟩ : ∃ cd, Prp.cccI d = cd := ⟨_, rfl⟩
  have hcc := Lib.hid (fun W => cccOf7 d cd hcd W)
  replace hcd := Lib.hid hcd
  have hmk := nmarks_any _ l w (by omega) (ri_of_own hp.kept)
  obtain ⟨R, hR⟩ : ∃ R, Nor.rowI l = R := ⟨_, rfl⟩
  rw [hR] at hmk hcnt
  replace hmk := Lib.hid hmk
  have b0 := blk_cell hp.box 0 _ rfl
  clear hR hl hd
  rw [if_neg h30]
  have hn30 : ((R.length : Int) == 30) = false := beq_eq_false_iff_ne.2 (by omega)
  obtain ⟨U, hU⟩ : ∃ U, Nor.insI l d = U := ⟨_, rfl⟩
  rw [hU, List.append_nil]
  replace hU := Lib.hid hU
  replace hp := Lib.hid hp
  clear h30 hcnt
  go_enter Tryz.func55, Tryz.ntmps55
  go_wp2_with fail
  refine hmk.out.mono ?_
  rintro e w1 ⟨v1, rfl, hv1, hb1⟩
  obtain ⟨p1, c1, rfl⟩ := ri_form hv1
  have q1 := Lib.hid (hp.out.go hb1)
  clear hv1 hb1 b0
  go_wp2_with fail
  refine (hcc.out _).mono ?_
  rintro e w3 ⟨rfl, hb3⟩
  have q3 := Lib.hid (q1.out.here.go hb3)
  have b3 := blk_cell q3.out.box 0 _ rfl
  clear hb3
  go_wp2_with fail
  go_loopg [5] l.length (fun n vk wr => n ≤ l.length ∧ vk = .int .i64 n ∧ (∀ x ∈ l.drop n, Prp.cccI d < Prp.cccI x) ∧ Below w3.heap.size w3 wr)
  case atStart => exact ⟨Nat.le_refl _, rfl, fun x hx => by simp at hx, Below.refl _ _⟩
  case round =>
    obtain ⟨hk, rfl, hpast, hbel⟩ := hrel
    have qr := Lib.hid (q3.out.go hbel)
    have br := blk_cell qr.out.box 0 _ rfl
    replace hpast := Lib.hid hpast
    cases gk with
    | zero =>
      replace hbel := Lib.hid hbel
      clear b3
      have hins := Nor.ins_cut (d := d) (Nat.zero_le l.length) hpast.out (fun h => absurd h (Nat.lt_irrefl 0))
      have q7 := Lib.hid (qr.out.new (.cells #[.int .i64 d] 3))
      have hin := Lib.hid (insert_one B (.slice pl l.length cl) l 0 d wr.heap.size 3 (wr.alloc (.cells #[.int .i64 d] 3)) (by omega) (by omega) q7.out.kept q7.out.size (blk_new wr _ _) (fun e => by have := (World.ownsRow.lt qr.out.kept _ e).2; omega))
      rw [← hins, hU.out] at hin
      replace hins := Lib.hid hins
      have b7 := blk_cell q7.out.box 0 _ rfl
      go_wp2_with fail
      refine hin.out.mono ?_
      rintro e w6 ⟨v6, rfl, ho6, hg6, hl6⟩
      obtain ⟨p6, c6, rfl⟩ := ri_form (ri_of_own ho6)
      have q6 := Lib.hid (q7.out.grew ho6 hg6 hl6)
      have k6 := blk_grown q7.out.box hg6 (fun e => own_off q7.out.kept q7.out.box e.symm)
      have e6 := blk_cell k6 0 _ rfl
      have f6 := blk_thaw k6 0
      clear ho6 hg6 hl6 k6 b7
      go_wp2_with fail
      go_end0
      exact ⟨rfl, _, _, q1.out.since (q6.out)⟩
    | succ k =>
      obtain ⟨g0, off0, hpl, hg0, hcell⟩ := ri_at (ri_of_own qr.out.kept) (by omega)
      subst hpl
      have hc := hcell k hk
      obtain ⟨x, hx⟩ : ∃ x, l[k] = x := ⟨_, rfl⟩
      rw [hx] at hc
      obtain ⟨cx, hcx⟩ : ∃ cx, Prp.cccI x = cx := ⟨_, rfl⟩
      have hxx := Lib.hid (fun W => cccOf7 x cx hcx W)
      replace hbel := Lib.hid hbel
      have hy0 := Lib.hid hx
      replace hcx := Lib.hid hcx
      clear hcell b3 hx
      by_cases hlt : cd < cx
      · go_wp2_with fail
        refine (hxx.out _).mono ?_
        rintro e w4 ⟨rfl, hb4⟩
        replace hb4 := Lib.hid (below_on hbel.out hb4)
        go_wp2_with fail
        go_roundg k
        case measure => omega
        case rel => exact ⟨by omega, by go_num, fun y hy => by
          rw [List.drop_eq_getElem_cons hk, List.mem_cons, hy0.out] at hy
          rcases hy with rfl | hy
          · rw [hcx.out, hcd.out]; exact hlt
          · exact hpast.out y hy, hb4.out⟩
      · go_wp2_with fail
        refine (hxx.out _).mono ?_
        rintro e w4 ⟨rfl, hb4⟩
        have q4 := Lib.hid (qr.out.go hb4)
        replace hb4 := Lib.hid (below_on hbel.out hb4)
        have b4 := blk_cell q4.out.box 0 _ rfl
        clear br hc
        have hins := Nor.ins_cut (d := d) hk hpast.out (fun _ => by simp only [Nat.add_sub_cancel]; rw [hy0.out, hcx.out, hcd.out]; omega)
        have q7 := Lib.hid (q4.out.new (.cells #[.int .i64 d] 3))
        have hin := Lib.hid (insert_one B (.slice (some ⟨g0, off0, none⟩) l.length cl) l (k + 1) d w4.heap.size 3 (w4.alloc (.cells #[.int .i64 d] 3)) (by omega) (by omega) q7.out.kept q7.out.size (blk_new w4 _ _) (fun e => by have := (World.ownsRow.lt q4.out.kept _ e).2; omega))
        rw [← hins, hU.out] at hin
        replace hins := Lib.hid hins
        have b7 := blk_cell q7.out.box 0 _ rfl
        go_wp2_with fail
        refine hin.out.mono ?_
        rintro e w6 ⟨v6, rfl, ho6, hg6, hl6⟩
        obtain ⟨p6, c6, rfl⟩ := ri_form (ri_of_own ho6)
        have q6 := Lib.hid (q7.out.grew ho6 hg6 hl6)
        have k6 := blk_grown q7.out.box hg6 (fun e => own_off q7.out.kept q7.out.box e.symm)
        have e6 := blk_cell k6 0 _ rfl
        have f6 := blk_thaw k6 0
        clear ho6 hg6 hl6 k6 b7
        go_wp2_with fail
        go_end0
        exact ⟨rfl, _, _, q1.out.since (q6.out)⟩
theorem putMark_any (B b : Nat) (g : Option Nat) (l t : List Int) (d : Int) (vl vt : Value) (w : World) (hl : Nor.Kept l) (hd : Prp.mrkB d = true) (ht : t.length ≤ 10000000) (hp : At9 B b g w l t vl vt w) : Calls Tryz.prog 55 #[.pointer (some ⟨b, 0, none⟩), .int .i64 d] w (Puts B b g (Nor.putI l d).1 (t ++ (Nor.putI l d).2) w) := by
  by_cases h30 : Nor.cntI l = 30
  · exact putMark_full B b g l t d vl vt w hl hd ht h30 hp
  · exact putMark_room B b g l t d vl vt w hl hd ht h30 hp
end Go.Proofs.YtfmnecknfmgggaaGreatDoor
