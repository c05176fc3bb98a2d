/- Layer 9: End. -/
import Derived.Test.YtfmnecknfmgggaaGreatDoorNoA2
namespace Go.Proofs.YtfmnecknfmgggaaGreatDoor
set_option linter.unusedSimpArgs false
set_option linter.unusedVariables false
open Go.RowKit Go.Lib

/-- what a State holds -/
theorem field_state (v : Value) (w : World) : (Instr.field 26 (.agg #[v]) 0).run Tryz.prog w = .ok v w := by kernel_rfl

set_option maxHeartbeats 1600000 in
set_option maxRecDepth 100000 in
theorem endC9 : EndC9 := by
  intro v l w hl hv
  obtain ⟨p, cap, rfl⟩ := ri_form hv
  have hbox := blk_new w #[.slice p l.length cap] 26
  have hb0 := below_new w (.cells #[.slice p l.length cap] 26)
  obtain ⟨W, hW⟩ : ∃ W, w.alloc (.cells #[.slice p l.length cap] 26) = W := ⟨_, rfl⟩
  have hvW := ri_below hv hb0
  rw [hW] at hbox hb0 hvW
  rw [well_end]
  have hco := copied_any (.slice p l.length cap) l W hl hvW
  have hwl := Nor.kept_len (well_kept l)
  obtain ⟨m, hm⟩ : ∃ m, wellI l = m := ⟨_, rfl⟩
  rw [hm] at hco hwl ⊢
  have hcm := fun V (W : World) h => compose_any7 joinYes joinNot V m W (by omega) h
  obtain ⟨E, hE⟩ : ∃ E, Can.composeI m = E := ⟨_, rfl⟩
  rw [hE] at hcm ⊢
  replace hcm := Lib.hid hcm
  replace hco := Lib.hid hco
  replace hW := Lib.hid hW
  replace hb0 := Lib.hid hb0
  replace hbox := Lib.hid hbox
  clear hv hvW hE hm
  go_enter Tryz.func45, Tryz.ntmps45
  go_upto_region 1 with (fail)
  rw [hW.out]
  have b0 := blk_cell hbox.out 0 _ rfl
  go_wp2_with fail
  refine hco.out.mono ?_
  rintro e w2 ⟨va, rfl, ho2, hb2⟩
  obtain ⟨pa, ca, rfl⟩ := ri_form (ri_of_own ho2)
  have hv2 := Lib.hid (ri_of_own ho2)
  replace hb2 := Lib.hid (hb0.out.trans (hb2.mono hb0.out.size))
  clear b0 ho2
  have hfd := field_state (.slice pa m.length ca) w2
  go_wp2_with fail
  refine (hcm.out _ _ hv2.out).mono ?_
  rintro e w3 ⟨v3, rfl, hv3, hb3⟩
  replace hv3 := Lib.hid hv3
  replace hb3 := Lib.hid (below_on hb2.out hb3)
  go_wp2_with fail
  go_ret
  exact ⟨_, rfl, hv3.out, hb3.out⟩
end Go.Proofs.YtfmnecknfmgggaaGreatDoor
