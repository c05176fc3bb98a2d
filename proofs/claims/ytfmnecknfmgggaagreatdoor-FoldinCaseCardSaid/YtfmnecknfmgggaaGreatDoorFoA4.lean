/- Layer 10: the code's copied. -/
import Derived.Test.YtfmnecknfmgggaaGreatDoorFoA1
import Derived.Test.YtfmnecknfmgggaaGreatDoorNoA9
namespace Go.Proofs.YtfmnecknfmgggaaGreatDoor
set_option linter.unusedSimpArgs false
set_option linter.unusedVariables false
open Go.RowKit Go.Lib

set_option maxHeartbeats 3200000 in
set_option maxRecDepth 100000 in
theorem copied10_any (v : Value) (l : List Int) (w : World) (hl : l.length ≤ 10000) (hv : RI w v l) : Calls Tryz.prog 15 #[.agg #[v]] w fun e w' => ∃ va, e = .returned (.agg #[va]) ∧ OwnI w.heap.size va (wellI l) w' ∧ Below w.heap.size w w' := by
  obtain ⟨p, cap, rfl⟩ := ri_form hv
  have hbox0 := blk_new w #[.slice p l.length cap] 26
  have hbox := blk_alloc hbox0 (.cells #[.slice none 0 0] 26)
  have hres := blk_new (w.alloc (.cells #[.slice p l.length cap] 26)) #[.slice none 0 0] 26
  rw [show (w.alloc (.cells #[.slice p l.length cap] 26)).heap.size = w.heap.size + 1 by simp] at hres
  have hb0 : Below w.heap.size w ((w.alloc (.cells #[.slice p l.length cap] 26)).alloc (.cells #[.slice none 0 0] 26)) := (below_new w _).alloc (by simp) _
  obtain ⟨W, hW⟩ : ∃ W, (w.alloc (.cells #[.slice p l.length cap] 26)).alloc (.cells #[.slice none 0 0] 26) = W := ⟨_, rfl⟩
  have hvW := ri_below hv hb0
  rw [hW] at hbox hres hb0 hvW
  have hsane := saneC9 (.slice p l.length cap) l W hl hvW
  unfold wellI
  replace hbox := Lib.hid hbox
  replace hres := Lib.hid hres
  replace hb0 := Lib.hid hb0
  replace hvW := Lib.hid hvW
  replace hW := Lib.hid hW
  clear hv hbox0
  cases hS : Nor.saneB l with
  | true =>
    rw [if_pos rfl]
    rw [hS] at hsane
    replace hsane := Lib.hid hsane
    clear hS
    go_enter Tryz.func15, Tryz.ntmps15
    go_upto_region 1 with (fail)
    rw [hW.out]
    have b0 := blk_cell hbox.out 0 _ rfl
    go_wp2_with fail
    refine hsane.out.mono ?_
    rintro e w2 ⟨rfl, hb2⟩
    have hbx2 := blk_below hbox.out hb2
    have c2 := blk_cell hbx2 0 _ rfl
    have hcl := Lib.hid (clone_any (.slice p l.length cap) l w2 (by omega) (ri_below hvW.out hb2))
    have hr2 := Lib.hid (blk_below hres.out hb2)
    replace hb2 := Lib.hid (hb0.out.trans (hb2.mono hb0.out.size))
    clear b0 hbx2
    go_wp2_with fail
    refine hcl.out.mono ?_
    rintro e w3 ⟨v3, rfl, ho3, hb3⟩
    have hr3 := blk_below hr2.out hb3
    have c3 := blk_cell hr3 0 _ rfl
    have f3 := blk_thaw hr3 0
    obtain ⟨p3, c3', rfl⟩ := ri_form (ri_of_own ho3)
    have hlt : w.heap.size + 1 < w2.heap.size := blk_lt hr2.out
    have hn3 := Lib.hid (blk_set (u := .slice p3 l.length c3') hr3)
    have ho4 := Lib.hid (ownI_mono (ownI_set ho3 ⟨w.heap.size + 1, 0, none⟩ (.slice p3 l.length c3') (ownI_ne ho3 hlt)) (show w.heap.size ≤ w2.heap.size by omega))
    have hb4 := Lib.hid ((below_on hb2.out hb3).setCell (p := ⟨w.heap.size + 1, 0, none⟩) (Nat.le_succ _) (.slice p3 l.length c3'))
    replace hr3 := Lib.hid hr3
    clear c2 hb3 ho3
    go_wp2_with fail
    have d4 := blk_cell hn3.out 0 _ rfl
    refine bodyPost_ret (v := .agg #[.slice p3 l.length c3']) ?_ rfl ⟨_, rfl, ho4.out, hb4.out⟩
    simp [results, Tryz.results15, go_sem, d4]
  | false =>
    rw [if_neg (by simp)]
    rw [hS] at hsane
    replace hsane := Lib.hid hsane
    clear hS
    go_enter Tryz.func15, Tryz.ntmps15
    go_upto_region 1 with (fail)
    rw [hW.out]
    have b0 := blk_cell hbox.out 0 _ rfl
    go_wp2_with fail
    refine hsane.out.mono ?_
    rintro e w2 ⟨rfl, hb2⟩
    have hr2 := blk_below hres.out hb2
    have c2 := blk_cell hr2 0 _ rfl
    have f2 := blk_thaw hr2 0
    have hn2 := Lib.hid (blk_set (u := .slice none 0 0) hr2)
    have hb4 := Lib.hid ((hb0.out.trans (hb2.mono hb0.out.size)).setCell (p := ⟨w.heap.size + 1, 0, none⟩) (Nat.le_succ _) (.slice none 0 0))
    replace hr2 := Lib.hid hr2
    clear b0 hb2
    go_wp2_with fail
    have d4 := blk_cell hn2.out 0 _ rfl
    refine bodyPost_ret (v := .agg #[.slice none 0 0]) ?_ rfl ⟨_, rfl, ownI_nil _ _, hb4.out⟩
    simp [results, Tryz.results15, go_sem, d4]

end Go.Proofs.YtfmnecknfmgggaaGreatDoor
