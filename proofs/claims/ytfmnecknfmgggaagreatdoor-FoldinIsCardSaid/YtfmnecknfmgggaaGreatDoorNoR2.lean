/- Layer 9: the document's Sane, End, Feed. -/
import Derived.Test.YtfmnecknfmgggaaGreatDoorNoR1
import Derived.Test.YtfmnecknfmgggaaGreatDoorNoB
import Derived.Test.YtfmnecknfmgggaaGreatDoorBasP
namespace Go.Proofs.YtfmnecknfmgggaaGreatDoor
set_option linter.unusedSimpArgs false
set_option linter.unusedVariables false
open Go.RowKit Go.Lib

set_option maxHeartbeats 3200000 in
set_option maxRecDepth 100000 in
theorem rsane9_any (v : Value) (l : List Int) (w : World) (hl : l.length ≤ 100000) (hv : RI w v l) : Calls Tryz.prog 20 #[.agg #[v]] w fun e w' => e = .returned (.bool (Nor.saneB l)) ∧ Below w.heap.size w w' := by
  obtain ⟨p, cap, rfl⟩ := ri_form hv
  have hbox := blk_new w #[.slice p l.length cap] 24
  have hb0 := below_new w (.cells #[.slice p l.length cap] 24)
  have hbx : ∀ {wr : World}, Below w.heap.size w wr → True := fun _ => trivial
  have hs0 : (w.alloc (.cells #[.slice p l.length cap] 24)).heap.size = w.heap.size + 1 := by simp
  obtain ⟨W, hW⟩ : ∃ W, w.alloc (.cells #[.slice p l.length cap] 24) = W := ⟨_, rfl⟩
  have hvW := ri_below hv hb0
  rw [hW] at hbox hb0 hs0 hvW
  have hsn : Nor.saneB l = (l.tail.all Prp.mrkB && decide (Nor.cntI l ≤ 30) && Can.sortedB l) := rfl
  rw [hsn]
  obtain ⟨S, hS⟩ : ∃ S, Can.sortedB l = S := ⟨_, rfl⟩
  obtain ⟨C, hC⟩ : ∃ C, Nor.cntI l = C := ⟨_, rfl⟩
  rw [hS, hC]
  obtain ⟨R, hR⟩ : ∃ R, (l.tail.all Prp.mrkB && decide (C ≤ 30) && S) = R := ⟨_, rfl⟩
  rw [hR]
  replace hR := Lib.hid hR
  replace hbox := Lib.hid hbox
  replace hb0 := Lib.hid hb0
  replace hs0 := Lib.hid hs0
  replace hvW := Lib.hid hvW
  replace hS := Lib.hid hS
  replace hC := Lib.hid hC
  replace hW := Lib.hid hW
  clear hsn hv hbx
  go_enter Tryz.func20, Tryz.ntmps20
  go_upto_region 1 with (fail)
  rw [hW.out]
  have b0 := blk_cell hbox.out 0 _ rfl
  go_wp2_with fail
  go_loopg [3] (l.length - 1) (fun g vi wr => ∃ k : Nat, 1 ≤ k ∧ (k ≤ l.length ∨ k = 1) ∧ vi = .int .i64 k ∧ g = l.length - k ∧ Hid (∀ j (hj : j < l.length), 1 ≤ j → j < k → Prp.mrkB l[j] = true) ∧ Below W.heap.size W wr)
  case atStart => exact ⟨1, Nat.le_refl _, .inr rfl, rfl, rfl, Lib.hid fun j hj h1 h2 => by omega, Below.refl _ _⟩
  case round =>
    obtain ⟨k, hk1, hk2, rfl, rfl, hmk, hbel⟩ := hrel
    have hkW : w.heap.size < W.heap.size := by rw [hs0.out]; omega
    have c0 := blk_cell (blk_below hbox.out hbel) 0 _ rfl
    have hB := Lib.hid (hb0.out.trans (hbel.mono hb0.out.size))
    by_cases hlt : k < l.length
    · have hlt' : (k : Int) < (l.length : Int) := by omega
      have hk3 : k ≤ l.length := by omega
      obtain ⟨b, off, rfl, hb, hcell⟩ := ri_at hvW.out (by omega)
      have hc : wr.cell? ⟨b, off + k, none⟩ = some (.int .i64 l[k]) := (hbel.cell hb).trans (hcell k hlt)
      obtain ⟨x, hx⟩ : ∃ x, l[k] = x := ⟨_, rfl⟩
      rw [hx] at hc
      have hmx := rmark_any x
      cases hmb : Prp.mrkB x with
      | true =>
        rw [hmb] at hmx
        replace hmx := Lib.hid hmx
        have hmk2 : Hid (∀ j (hj : j < l.length), 1 ≤ j → j < k + 1 → Prp.mrkB l[j] = true) := Lib.hid fun j hj h1 h2 => by
          rcases Nat.lt_or_ge j k with h | h
          · exact hmk.out j hj h1 h
          · obtain rfl : j = k := by omega
            rw [hx, hmb]
        replace hbel := Lib.hid hbel
        clear hcell hx hmb hmk hk2
        go_wp2_with fail
        refine (hmx.out _).mono ?_
        rintro e w2 ⟨rfl, hb2⟩
        replace hb2 := Lib.hid (below_on hbel.out hb2)
        go_wp2_with fail
        go_roundg (l.length - (k + 1))
        case measure => omega
        case rel => exact ⟨k + 1, by omega, .inl (by omega), by go_num, rfl, hmk2, hb2.out⟩
      | false =>
        rw [hmb] at hmx
        replace hmx := Lib.hid hmx
        have hno : false = R := by
          rw [← hR.out]
          have : l.tail.all Prp.mrkB = false := by
            rw [List.all_eq_false]
            refine ⟨x, ?_, by rw [hmb]; simp⟩
            rw [← hx]
            cases l with
            | nil => simp at hlt
            | cons a t =>
              cases k with
              | zero => omega
              | succ k => simp
          rw [this]
          rfl
        replace hno := Lib.hid hno
        replace hbel := Lib.hid hbel
        clear hcell hx hmb hmk hk2
        go_wp2_with fail
        refine (hmx.out _).mono ?_
        rintro e w2 ⟨rfl, hb2⟩
        replace hb2 := Lib.hid (below_on hbel.out hb2)
        go_wp2_with fail
        go_ret
        exact ⟨ret_bool hno.out, hb0.out.trans (hb2.out.mono hb0.out.size)⟩
    · have hlt' : decide ((k : Int) < (l.length : Int)) = false := by simp; omega
      have hall : l.tail.all Prp.mrkB = true := by
        rw [List.all_eq_true]
        intro y hy
        obtain ⟨j, hj, rfl⟩ := List.mem_iff_getElem.1 hy
        rw [List.length_tail] at hj
        rw [List.getElem_tail]
        exact hmk.out (j + 1) (by omega) (by omega) (by omega)
      have hRR := hR.out
      rw [hall, Bool.true_and] at hRR
      have hcn := rcount_any (.slice p l.length cap) l wr (by omega) (ri_below hvW.out hbel)
      rw [hC.out] at hcn
      replace hcn := Lib.hid hcn
      replace hbel := Lib.hid hbel
      clear hmk hall hk2
      by_cases h30 : C ≤ 30
      · have h30' : (C : Int) ≤ 30 := by omega
        rw [decide_eq_true h30, Bool.true_and] at hRR
        replace hRR := Lib.hid hRR
        go_wp2_with fail
        refine hcn.out.mono ?_
        rintro e w2 ⟨rfl, hb2⟩
        replace hb2 := Lib.hid (below_on hbel.out hb2)
        have c2 := blk_cell (blk_below hbox.out hb2.out) 0 _ rfl
        have hso := rsorted_any (.slice p l.length cap) l w2 hl (ri_below hvW.out hb2.out)
        rw [hS.out] at hso
        replace hso := Lib.hid hso
        go_wp2_with fail
        refine hso.out.mono ?_
        rintro e w3 ⟨rfl, hb3⟩
        replace hb3 := Lib.hid (below_on hb2.out hb3)
        go_wp2_with fail
        go_ret
        exact ⟨ret_bool hRR.out, hb0.out.trans (hb3.out.mono hb0.out.size)⟩
      · have h30' : decide ((C : Int) ≤ 30) = false := by simp; omega
        rw [decide_eq_false h30, Bool.false_and] at hRR
        replace hRR := Lib.hid hRR
        go_wp2_with fail
        refine hcn.out.mono ?_
        rintro e w2 ⟨rfl, hb2⟩
        replace hb2 := Lib.hid (below_on hbel.out hb2)
        go_wp2_with fail
        go_ret
        exact ⟨ret_bool hRR.out, hb0.out.trans (hb2.out.mono hb0.out.size)⟩

end Go.Proofs.YtfmnecknfmgggaaGreatDoor
