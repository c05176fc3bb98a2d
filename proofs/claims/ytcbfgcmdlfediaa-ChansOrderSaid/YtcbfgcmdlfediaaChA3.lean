/- Layer 16: the code's Put, Take, Close, Spent, Count. -/
import Derived.Test.YtcbfgcmdlfediaaChA2
import Derived.Deep.LoopGhost
namespace Go.Proofs.Ytcbfgcmdlfediaa
set_option linter.unusedSimpArgs false
set_option linter.unusedVariables false
open Go.RowKit Go.Lib
open Stg (Ch)
theorem blk_put2 {w : World} {k : Nat} {a b : Value} {T : TypeId} (h : Blk w k #[a, b] T) (x y : Value) : Blk ((w.setCell ⟨k, 0, none⟩ x).setCell ⟨k, 1, none⟩ y) k #[x, y] T := blk_setAt16 (blk_setAt16 h 0 x) 1 y
theorem blk_else2 {w : World} {k j : Nat} {cs : Array Value} {T : TypeId} (h : Blk w k cs T) (hne : k ≠ j) (x y : Value) : Blk ((w.setCell ⟨j, 0, none⟩ x).setCell ⟨j, 1, none⟩ y) k cs T := blk_other16 (blk_other16 h ⟨j, 0, none⟩ x hne) ⟨j, 1, none⟩ y hne
set_option maxHeartbeats 3200000 in
set_option maxRecDepth 100000 in
theorem spentC16 : SpentC16 := by
  intro J v c w hf hv
  unfold Stg.spentC
  
  have hk := fun W (h : RCh (Up (fun _ => False) w) W v c) => known16 (Up (fun _ => False) w) v c W hf h
  have hv0 := rch_up (rch_mono (K := fun _ => False) hv (fun j _ h => h.elim))
  obtain ⟨p, cap, rfl, hr0⟩ := rch_form hv0
  obtain ⟨d, hd⟩ : ∃ d, Stg.asC c = d := ⟨_, rfl⟩
  have hsn := Stg.asC_sane c
  rw [hd] at hk hsn ⊢
  have hfd := few_sane hsn
  have hsn2 := (Stg.saneC_iff d).1 hsn
  
  have hbx := blk_new w #[.slice p c.L.length cap, .bool c.closed] 28
  have hbel0 := below_new w (.cells #[.slice p c.L.length cap, .bool c.closed] 28)
  have hcall := Lib.hid (hk _ (rch_below hv0 hbel0))
  obtain ⟨cl, hcl⟩ : ∃ cl, c.closed = cl := ⟨_, rfl⟩
  obtain ⟨n, hn⟩ : ∃ n, c.L.length = n := ⟨_, rfl⟩
  rw [hcl, hn] at hbel0 hcall hbx ⊢
  have c0 := blk_cell hbx 0 (.slice p n cap) rfl
  have c1 := blk_cell hbx 1 (.bool cl) rfl
  replace hbel0 := Lib.hid hbel0
  replace hbx := Lib.hid hbx
  clear hcl hn hv hv0 hk hr0 hd hsn
  obtain ⟨L, dc⟩ := d
  dsimp only at hcall hsn2 ⊢
  obtain ⟨hs1, hs2⟩ := hsn2
  replace hs2 := Lib.hid hs2
  replace hfd := Lib.hid hfd
  go_enter Try.func22, Try.ntmps22
  go_wp2_with fail
  
  refine hcall.out.mono ?_
  rintro e w1 ⟨v1, rfl, hv1, hb1⟩
  obtain ⟨p1, cap1, rfl, hr1⟩ := rch_form hv1
  dsimp only at hr1
  have hx1 := blk_below hbx.out hb1
  have hbel1 := below_on hbel0.out hb1
  clear c0 c1 hcall hbel0 hbx hv1 hb1
  have f0 := blk_thaw hx1 0
  have f1 := blk_thaw hx1 1
  have c0 := blk_cell hx1 0 (.slice p n cap) rfl
  have c1 := blk_cell hx1 1 (.bool cl) rfl
  have hB := Lib.hid ((hbel1.setCell (p := ⟨w.heap.size, 0, none⟩) (Nat.le_refl _) (.slice p1 L.length cap1)).setCell (p := ⟨w.heap.size, 1, none⟩) (Nat.le_refl _) (.bool dc))
  replace hbel1 := Lib.hid hbel1
  replace hx1 := Lib.hid hx1
  replace hr1 := Lib.hid hr1
  rcases dc with _ | _
  · go_wp2_with fail
    go_ret
    exact ⟨rfl, hB.out⟩
  · rcases L with _ | ⟨x, t⟩
    · go_wp2_with fail
      go_ret
      exact ⟨rfl, hB.out⟩
    · have hne : ((((x :: t).length : Nat) : Int) == 0) = false := beq_eq_false_iff_ne.2 (by simp only [List.length_cons]; omega)
      obtain ⟨q, hq⟩ : ∃ q, (x :: t).length = q := ⟨_, rfl⟩
      rw [hq] at hne hB ⊢
      have hne2 : ¬ ((q : Int) = 0) := by rw [← hq]; simp only [List.length_cons]; omega
      clear hq
      go_wp2_with fail
      go_ret
      exact ⟨rfl, hB.out⟩
set_option maxHeartbeats 3200000 in
set_option maxRecDepth 100000 in
theorem closeC16 : CloseC16 := by
  intro J v c w hold hf hv
  unfold Stg.closeC
  
  have hk := fun W (h : RCh (Up (fun _ => False) w) W v c) => known16 (Up (fun _ => False) w) v c W hf h
  have hv0 := rch_up (rch_mono (K := fun _ => False) hv (fun j _ h => h.elim))
  obtain ⟨p, cap, rfl, hr0⟩ := rch_form hv0
  obtain ⟨d, hd⟩ : ∃ d, Stg.asC c = d := ⟨_, rfl⟩
  have hsn := Stg.asC_sane c
  rw [hd] at hk hsn ⊢
  have hfd := few_sane hsn
  have hsn2 := (Stg.saneC_iff d).1 hsn
  
  have hb0 := blk_new w #[.slice p c.L.length cap, .bool c.closed] 28
  have hbx := blk_alloc hb0 (.cells #[.slice none 0 0, .bool false] 28)
  have hres := blk_new (w.alloc (.cells #[.slice p c.L.length cap, .bool c.closed] 28)) #[.slice none 0 0, .bool false] 28
  rw [show (w.alloc (.cells #[.slice p c.L.length cap, .bool c.closed] 28)).heap.size = w.heap.size + 1 by simp] at hres
  have hbel0 : Below w.heap.size w ((w.alloc (.cells #[.slice p c.L.length cap, .bool c.closed] 28)).alloc (.cells #[.slice none 0 0, .bool false] 28)) := (below_new w _).alloc (by simp) _
  have hcall := Lib.hid (hk _ (rch_below hv0 hbel0))
  obtain ⟨cl, hcl⟩ : ∃ cl, c.closed = cl := ⟨_, rfl⟩
  obtain ⟨n, hn⟩ : ∃ n, c.L.length = n := ⟨_, rfl⟩
  rw [hcl, hn] at hbel0 hcall hbx hres ⊢
  have c0 := blk_cell hbx 0 (.slice p n cap) rfl
  have c1 := blk_cell hbx 1 (.bool cl) rfl
  replace hbel0 := Lib.hid hbel0
  replace hres := Lib.hid hres
  replace hbx := Lib.hid hbx
  clear hcl hn hv hv0 hk hr0 hd hsn hb0
  obtain ⟨L, dc⟩ := d
  dsimp only at hcall hsn2 ⊢
  obtain ⟨hs1, hs2⟩ := hsn2
  replace hs2 := Lib.hid hs2
  replace hfd := Lib.hid hfd
  go_enter Try.func20, Try.ntmps20
  go_wp2_with fail
  
  refine hcall.out.mono ?_
  rintro e w1 ⟨v1, rfl, hv1, hb1⟩
  obtain ⟨p1, cap1, rfl, hr1⟩ := rch_form hv1
  dsimp only at hr1
  have hx1 := blk_below hbx.out hb1
  have hy1 := blk_below hres.out hb1
  have hbel1 := below_on hbel0.out hb1
  clear c0 c1 hcall hbel0 hbx hv1 hb1
  clear hres
  have hap := Lib.hid (apart16 _ ⟨L, dc⟩ w1 hfd.out ⟨_, rfl, rro_mono hr1 (fun j _ h => h.elim)⟩)
  replace hbel1 := Lib.hid hbel1
  replace hx1 := Lib.hid hx1
  replace hy1 := Lib.hid hy1
  clear hr1
  go_wp2_with fail
  
  refine hap.out.mono ?_
  rintro e w2 ⟨v2, rfl, hv2, hb2⟩
  obtain ⟨p2, cap2, rfl, hr2⟩ := rch_form hv2
  dsimp only at hr2
  have hx2 := blk_below hx1.out hb2
  have hy2 := blk_below hy1.out hb2
  have hbel2 := below_on hbel1.out hb2
  have hlt := blk_lt hx1.out
  have hlt2 := blk_lt hy1.out
  clear hap hv2 hb2 hx1 hy1 hbel1
  
  have f0 := blk_thaw hx2 0
  have f1 := blk_thaw hx2 1
  have g0 := blk_thaw hy2 0
  have g1 := blk_thaw hy2 1
  have c0 := blk_cell hx2 0 (.slice p n cap) rfl
  have c1 := blk_cell hx2 1 (.bool cl) rfl
  have e0 := blk_cell hy2 0 (.slice none 0 0) rfl
  have e1 := blk_cell hy2 1 (.bool false) rfl
  go_upto_region 2 with (fail)
  clear f0 f1 g0 g1 c0 c1 e0 e1
  
  have hx3 := blk_put2 hx2 (.slice p2 L.length cap2) (.bool dc)
  have hy3 := blk_else2 hy2 (by omega : w.heap.size + 1 ≠ w.heap.size) (.slice p2 L.length cap2) (.bool dc)
  have hO3 : OnlyIn (fun j => j < w1.heap.size) w2 ((w2.setCell ⟨w.heap.size, 0, none⟩ (.slice p2 L.length cap2)).setCell ⟨w.heap.size, 1, none⟩ (.bool dc)) := only_trans (only_set _ ⟨w.heap.size, 0, none⟩ _ hlt) (only_set _ ⟨w.heap.size, 1, none⟩ _ hlt)
  have hbel3 := (hbel2.setCell (p := ⟨w.heap.size, 0, none⟩) (Nat.le_refl _) (.slice p2 L.length cap2)).setCell (p := ⟨w.heap.size, 1, none⟩) (Nat.le_refl _) (.bool dc)
  obtain ⟨W3, hW3⟩ : ∃ W3, (w2.setCell ⟨w.heap.size, 0, none⟩ (.slice p2 L.length cap2)).setCell ⟨w.heap.size, 1, none⟩ (.bool dc) = W3 := ⟨_, rfl⟩
  rw [hW3] at hx3 hy3 hO3 hbel3
  replace hW3 := Lib.hid hW3
  replace hO3 := Lib.hid hO3
  rw [hW3.out]
  
  have f0 := blk_thaw hx3 0
  have f1 := blk_thaw hx3 1
  have g0 := blk_thaw hy3 0
  have g1 := blk_thaw hy3 1
  have c0 := blk_cell hx3 0 (.slice p2 L.length cap2) rfl
  have c1 := blk_cell hx3 1 (.bool dc) rfl
  have e0 := blk_cell hy3 0 (.slice none 0 0) rfl
  have e1 := blk_cell hy3 1 (.bool false) rfl
  replace hx2 := Lib.hid hx2
  replace hy2 := Lib.hid hy2
  replace hbel2 := Lib.hid hbel2
  replace hx3 := Lib.hid hx3
  replace hy3 := Lib.hid hy3
  replace hbel3 := Lib.hid hbel3
  replace hr2 := Lib.hid hr2
  go_upto_region 3 with (fail)
  clear f0 f1 g0 g1 c0 c1 e0 e1
  have hx4 := blk_setAt16 hx3.out 1 (.bool true)
  have hy4 := blk_other16 hy3.out ⟨w.heap.size, 1, none⟩ (.bool true) (by show w.heap.size + 1 ≠ w.heap.size; omega)
  have hO4 := Lib.hid (only_set (J := fun j => j < w1.heap.size) W3 ⟨w.heap.size, 1, none⟩ (.bool true) hlt)
  have hbel4 := hbel3.out.setCell (p := ⟨w.heap.size, 1, none⟩) (Nat.le_refl _) (.bool true)
  obtain ⟨W4, hW4⟩ : ∃ W4, W3.setCell ⟨w.heap.size, 1, none⟩ (.bool true) = W4 := ⟨_, rfl⟩
  rw [hW4] at hx4 hy4 hO4 hbel4 ⊢
  replace hW4 := Lib.hid hW4
  
  have f0 := blk_thaw hx4 0
  have f1 := blk_thaw hx4 1
  have g0 := blk_thaw hy4 0
  have g1 := blk_thaw hy4 1
  have c0 := blk_cell hx4 0 (.slice p2 L.length cap2) rfl
  have c1 := blk_cell hx4 1 (.bool true) rfl
  have e0 := blk_cell hy4 0 (.slice none 0 0) rfl
  have e1 := blk_cell hy4 1 (.bool false) rfl
  replace hx4 := Lib.hid hx4
  go_wp2_with fail
  
  have hx5 := blk_else2 hx4.out (by omega : w.heap.size ≠ w.heap.size + 1) (.slice p2 L.length cap2) (.bool true)
  have hy5 := blk_put2 hy4 (.slice p2 L.length cap2) (.bool true)
  have hO5 : OnlyIn (fun j => j < w1.heap.size) W4 ((W4.setCell ⟨w.heap.size + 1, 0, none⟩ (.slice p2 L.length cap2)).setCell ⟨w.heap.size + 1, 1, none⟩ (.bool true)) := only_trans (only_set _ ⟨w.heap.size + 1, 0, none⟩ _ hlt2) (only_set _ ⟨w.heap.size + 1, 1, none⟩ _ hlt2)
  have hbel5 := (hbel4.setCell (p := ⟨w.heap.size + 1, 0, none⟩) (Nat.le_succ _) (.slice p2 L.length cap2)).setCell (p := ⟨w.heap.size + 1, 1, none⟩) (Nat.le_succ _) (.bool true)
  obtain ⟨W5, hW5⟩ : ∃ W5, (W4.setCell ⟨w.heap.size + 1, 0, none⟩ (.slice p2 L.length cap2)).setCell ⟨w.heap.size + 1, 1, none⟩ (.bool true) = W5 := ⟨_, rfl⟩
  rw [hW5] at hx5 hy5 hO5 hbel5
  replace hW5 := Lib.hid hW5
  replace hO5 := Lib.hid hO5
  rw [hW5.out]
  refine bodyPost_ret (v := .agg #[.slice p2 L.length cap2, .bool true]) ?_ rfl ⟨_, rfl, ⟨_, rfl, ?_⟩, hbel5⟩
  · have q0 := blk_cell hy5 0 (.slice p2 L.length cap2) rfl
    have q1 := blk_cell hy5 1 (.bool true) rfl
    simp [results, Try.results20, go_sem, q0, q1]
  · have hO := only_trans (only_trans hO3.out hO4.out) hO5.out
    exact rro_mono (rro_but hr2.out hO) (fun j _ hJ => Nat.lt_trans (hold j hJ) hlt)
set_option maxHeartbeats 3200000 in
set_option maxRecDepth 100000 in
theorem takeC16 : TakeC16 := by
  intro J v c w hold hf hv
  unfold Stg.takeC
  
  have hk := fun W (h : RCh (Up (fun _ => False) w) W v c) => known16 (Up (fun _ => False) w) v c W hf h
  have hv0 := rch_up (rch_mono (K := fun _ => False) hv (fun j _ h => h.elim))
  obtain ⟨p, cap, rfl, hr0⟩ := rch_form hv0
  obtain ⟨d, hd⟩ : ∃ d, Stg.asC c = d := ⟨_, rfl⟩
  have hsn := Stg.asC_sane c
  rw [hd] at hk hsn ⊢
  have hfd := few_sane hsn
  have hsn2 := (Stg.saneC_iff d).1 hsn
  
  have hb0 := blk_new w #[.slice p c.L.length cap, .bool c.closed] 28
  have hbx := blk_alloc hb0 (.cells #[.slice none 0 0, .bool false] 28)
  have hres := blk_new (w.alloc (.cells #[.slice p c.L.length cap, .bool c.closed] 28)) #[.slice none 0 0, .bool false] 28
  rw [show (w.alloc (.cells #[.slice p c.L.length cap, .bool c.closed] 28)).heap.size = w.heap.size + 1 by simp] at hres
  have hbel0 : Below w.heap.size w ((w.alloc (.cells #[.slice p c.L.length cap, .bool c.closed] 28)).alloc (.cells #[.slice none 0 0, .bool false] 28)) := (below_new w _).alloc (by simp) _
  have hcall := Lib.hid (hk _ (rch_below hv0 hbel0))
  obtain ⟨cl, hcl⟩ : ∃ cl, c.closed = cl := ⟨_, rfl⟩
  obtain ⟨n, hn⟩ : ∃ n, c.L.length = n := ⟨_, rfl⟩
  rw [hcl, hn] at hbel0 hcall hbx hres ⊢
  have c0 := blk_cell hbx 0 (.slice p n cap) rfl
  have c1 := blk_cell hbx 1 (.bool cl) rfl
  replace hbel0 := Lib.hid hbel0
  replace hres := Lib.hid hres
  replace hbx := Lib.hid hbx
  clear hcl hn hv hv0 hk hr0 hd hsn hb0
  obtain ⟨L, dc⟩ := d
  dsimp only at hcall hsn2 ⊢
  obtain ⟨hs1, hs2⟩ := hsn2
  replace hs2 := Lib.hid hs2
  replace hfd := Lib.hid hfd
  go_enter Try.func14, Try.ntmps14
  go_wp2_with fail
  
  refine hcall.out.mono ?_
  rintro e w1 ⟨v1, rfl, hv1, hb1⟩
  obtain ⟨p1, cap1, rfl, hr1⟩ := rch_form hv1
  dsimp only at hr1
  have hx1 := blk_below hbx.out hb1
  have hy1 := blk_below hres.out hb1
  have hbel1 := below_on hbel0.out hb1
  clear c0 c1 hcall hbel0 hbx hv1 hb1
  clear hres
  have hap := Lib.hid (apart16 _ ⟨L, dc⟩ w1 hfd.out ⟨_, rfl, rro_mono hr1 (fun j _ h => h.elim)⟩)
  replace hbel1 := Lib.hid hbel1
  replace hx1 := Lib.hid hx1
  replace hy1 := Lib.hid hy1
  clear hr1
  go_wp2_with fail
  
  refine hap.out.mono ?_
  rintro e w2 ⟨v2, rfl, hv2, hb2⟩
  obtain ⟨p2, cap2, rfl, hr2⟩ := rch_form hv2
  dsimp only at hr2
  have hx2 := blk_below hx1.out hb2
  have hy2 := blk_below hy1.out hb2
  have hbel2 := below_on hbel1.out hb2
  have hlt := blk_lt hx1.out
  have hlt2 := blk_lt hy1.out
  clear hap hv2 hb2 hx1 hy1 hbel1
  
  have f0 := blk_thaw hx2 0
  have f1 := blk_thaw hx2 1
  have g0 := blk_thaw hy2 0
  have g1 := blk_thaw hy2 1
  have c0 := blk_cell hx2 0 (.slice p n cap) rfl
  have c1 := blk_cell hx2 1 (.bool cl) rfl
  have e0 := blk_cell hy2 0 (.slice none 0 0) rfl
  have e1 := blk_cell hy2 1 (.bool false) rfl
  go_upto_region 2 with (fail)
  clear f0 f1 g0 g1 c0 c1 e0 e1
  
  have hx3 := blk_put2 hx2 (.slice p2 L.length cap2) (.bool dc)
  have hy3 := blk_else2 hy2 (by omega : w.heap.size + 1 ≠ w.heap.size) (.slice p2 L.length cap2) (.bool dc)
  have hO3 : OnlyIn (fun j => j < w1.heap.size) w2 ((w2.setCell ⟨w.heap.size, 0, none⟩ (.slice p2 L.length cap2)).setCell ⟨w.heap.size, 1, none⟩ (.bool dc)) := only_trans (only_set _ ⟨w.heap.size, 0, none⟩ _ hlt) (only_set _ ⟨w.heap.size, 1, none⟩ _ hlt)
  have hbel3 := (hbel2.setCell (p := ⟨w.heap.size, 0, none⟩) (Nat.le_refl _) (.slice p2 L.length cap2)).setCell (p := ⟨w.heap.size, 1, none⟩) (Nat.le_refl _) (.bool dc)
  obtain ⟨W3, hW3⟩ : ∃ W3, (w2.setCell ⟨w.heap.size, 0, none⟩ (.slice p2 L.length cap2)).setCell ⟨w.heap.size, 1, none⟩ (.bool dc) = W3 := ⟨_, rfl⟩
  rw [hW3] at hx3 hy3 hO3 hbel3
  replace hW3 := Lib.hid hW3
  replace hO3 := Lib.hid hO3
  rw [hW3.out]
  have hr3 := rro_but hr2 hO3.out
  rcases L with _ | ⟨x, t⟩
  · skip
    
    have f0 := blk_thaw hx3 0
    have f1 := blk_thaw hx3 1
    have g0 := blk_thaw hy3 0
    have g1 := blk_thaw hy3 1
    have c0 := blk_cell hx3 0 (.slice p2 0 cap2) rfl
    have c1 := blk_cell hx3 1 (.bool dc) rfl
    have e0 := blk_cell hy3 0 (.slice none 0 0) rfl
    have e1 := blk_cell hy3 1 (.bool false) rfl
    replace hx2 := Lib.hid hx2
    replace hy2 := Lib.hid hy2
    replace hbel2 := Lib.hid hbel2
    replace hx3 := Lib.hid hx3
    replace hr2 := Lib.hid hr2
    replace hr3 := Lib.hid hr3
    replace hbel3 := Lib.hid hbel3
    go_wp2_with fail
    
    have hx5 := blk_else2 hx3.out (by omega : w.heap.size ≠ w.heap.size + 1) (.slice p2 0 cap2) (.bool dc)
    have hy5 := blk_put2 hy3 (.slice p2 0 cap2) (.bool dc)
    have hO5 : OnlyIn (fun j => j < w1.heap.size) W3 ((W3.setCell ⟨w.heap.size + 1, 0, none⟩ (.slice p2 0 cap2)).setCell ⟨w.heap.size + 1, 1, none⟩ (.bool dc)) := only_trans (only_set _ ⟨w.heap.size + 1, 0, none⟩ _ hlt2) (only_set _ ⟨w.heap.size + 1, 1, none⟩ _ hlt2)
    have hbel5 := (hbel3.out.setCell (p := ⟨w.heap.size + 1, 0, none⟩) (Nat.le_succ _) (.slice p2 0 cap2)).setCell (p := ⟨w.heap.size + 1, 1, none⟩) (Nat.le_succ _) (.bool dc)
    obtain ⟨W5, hW5⟩ : ∃ W5, (W3.setCell ⟨w.heap.size + 1, 0, none⟩ (.slice p2 0 cap2)).setCell ⟨w.heap.size + 1, 1, none⟩ (.bool dc) = W5 := ⟨_, rfl⟩
    rw [hW5] at hx5 hy5 hO5 hbel5
    replace hW5 := Lib.hid hW5
    replace hO5 := Lib.hid hO5
    rw [hW5.out]
    refine bodyPost_ret (v := .tuple #[.agg #[.slice p2 0 cap2, .bool dc], .slice none 0 0, .bool false]) ?_ rfl ⟨_, _, rfl, ⟨_, rfl, rro_mono (rro_but hr3.out hO5.out) (fun j _ hJ => Nat.lt_trans (hold j hJ) hlt)⟩, ⟨ri_nil _, fun h => absurd rfl h⟩, hbel5⟩
    have q0 := blk_cell hy5 0 (.slice p2 0 cap2) rfl
    have q1 := blk_cell hy5 1 (.bool dc) rfl
    simp [results, Try.results14, go_sem, q0, q1]
  · obtain ⟨b, off, rfl, hb, hJ, hcell⟩ := rro_at hr3 (by simp)
    obtain ⟨u, hu, hru⟩ := hcell 0 (by simp)
    obtain ⟨p0, k0, rfl⟩ := ri_form hru.1
    replace hru : RIo (fun j => j < w1.heap.size) W3 (.slice p0 x.length k0) x := hru
    replace hu : W3.cell? ⟨b, off, none⟩ = some (.slice p0 x.length k0) := hu
    obtain ⟨hcap1, hcap2, _⟩ := rro_cap hr3
    have hne : b ≠ w.heap.size + 1 := fun e => hJ (e ▸ hlt2)
    have hne1 : w.heap.size ≠ w.heap.size + 1 := by omega
    have hfrom := rro_from hr3 1 (by simp) (by simp)
    replace hfrom : RRo (fun j => j < w1.heap.size) W3 (.slice (some ⟨b, off + 1, none⟩) (t.length + 1 - 1) (cap2 - 1)) t := hfrom
    rw [show t.length + 1 - 1 = t.length from rfl] at hfrom
    replace hfrom := Lib.hid hfrom
    have n1 : t.length + 1 ≤ cap2 := hcap2
    have hdown : ∀ (j : Nat), j < W3.heap.size → J j → j < w1.heap.size := fun j _ hJ => Nat.lt_trans (hold j hJ) hlt
    replace hdown := Lib.hid hdown
    clear hcell
    replace hru := Lib.hid hru
    
    have f0 := blk_thaw hx3 0
    have f1 := blk_thaw hx3 1
    have g0 := blk_thaw hy3 0
    have g1 := blk_thaw hy3 1
    have c0 := blk_cell hx3 0 (.slice (some ⟨b, off, none⟩) (t.length + 1) cap2) rfl
    have c1 := blk_cell hx3 1 (.bool dc) rfl
    have e0 := blk_cell hy3 0 (.slice none 0 0) rfl
    have e1 := blk_cell hy3 1 (.bool false) rfl
    replace hx2 := Lib.hid hx2
    replace hy2 := Lib.hid hy2
    replace hbel2 := Lib.hid hbel2
    replace hx3 := Lib.hid hx3
    replace hy3 := Lib.hid hy3
    replace hbel3 := Lib.hid hbel3
    replace hr2 := Lib.hid hr2
    replace hr3 := Lib.hid hr3
    go_upto_region 4 with (fail)
    rcases Nat.eq_or_lt_of_le (Nat.le_trans (Nat.le_add_left 1 t.length) n1) with hcd | hcd
    · obtain rfl : cap2 = 1 := hcd.symm
      obtain rfl : t = [] := List.eq_nil_of_length_eq_zero (by omega)
      replace c0 : W3.cell? ⟨w.heap.size, 0, none⟩ = some (.slice (some ⟨b, off, none⟩) 1 1) := c0
      have HS := Lib.hid (fun u0 u1 => cells3_set ⟨c0, c1, hu⟩ hne1 hne1 hne u0 u1)
      go_region_held3 (fun w' => w'.cell? ⟨w.heap.size, 0, none⟩ = some (.slice (some ⟨b, off, none⟩) 1 1) ∧ w'.cell? ⟨w.heap.size, 1, none⟩ = some (.bool dc) ∧ w'.cell? ⟨b, off, none⟩ = some (.slice p0 x.length k0)) (first | with_reducible exact HS.out _ _ | go_keep) (fail)
      all_goals
        go_wp2_with fail
        have q := blk_put2 hy3.out (.slice (some ⟨b, off, none⟩) 0 0) (.bool dc)
        have q0 := blk_cell q 0 (.slice (some ⟨b, off, none⟩) 0 0) rfl
        have q1 := blk_cell q 1 (.bool dc) rfl
        have hO : OnlyIn (fun j => j < w1.heap.size) W3 ((W3.setCell ⟨w.heap.size + 1, 0, none⟩ (.slice (some ⟨b, off, none⟩) 0 0)).setCell ⟨w.heap.size + 1, 1, none⟩ (.bool dc)) := only_trans (only_set _ ⟨w.heap.size + 1, 0, none⟩ _ hlt2) (only_set _ ⟨w.heap.size + 1, 1, none⟩ _ hlt2)
        have hB := (hbel3.out.setCell (p := ⟨w.heap.size + 1, 0, none⟩) (Nat.le_succ _) (.slice (some ⟨b, off, none⟩) 0 0)).setCell (p := ⟨w.heap.size + 1, 1, none⟩) (Nat.le_succ _) (.bool dc)
        refine bodyPost_ret (v := .tuple #[.agg #[.slice (some ⟨b, off, none⟩) 0 0, .bool dc], .slice p0 x.length k0, .bool true]) ?_ rfl ⟨_, _, rfl, ⟨_, rfl, rro_none _ _ _ _ (fun h => by cases h)⟩, rio_mono (show RIo (fun j => j < w1.heap.size) ((W3.setCell ⟨w.heap.size + 1, 0, none⟩ (.slice (some ⟨b, off, none⟩) 0 0)).setCell ⟨w.heap.size + 1, 1, none⟩ (.bool dc)) _ _ from rio_but hru.out hO) (fun j _ hJ => Nat.lt_trans (hold j hJ) hlt), below_on hB (Below.refl _ _).drew⟩
        simp [results, Try.results14, go_sem, q0, q1]
    · have n2 : (1 : Int) < (cap2 : Int) := by omega
      have n3 : (1 : Int) ≤ (t.length : Int) + 1 := by omega
      have n4 : (t.length : Int) + 1 ≤ (cap2 : Int) := by omega
      have HS := Lib.hid (fun u0 u1 => cells3_set ⟨c0, c1, hu⟩ hne1 hne1 hne u0 u1)
      go_region_held3 (fun w' => w'.cell? ⟨w.heap.size, 0, none⟩ = some (.slice (some ⟨b, off, none⟩) (t.length + 1) cap2) ∧ w'.cell? ⟨w.heap.size, 1, none⟩ = some (.bool dc) ∧ w'.cell? ⟨b, off, none⟩ = some (.slice p0 x.length k0)) (first | with_reducible exact HS.out _ _ | go_keep) (fail)
      all_goals
        go_wp2_with fail
        have q := blk_put2 hy3.out (.slice (some ⟨b, off + 1, none⟩) t.length (cap2 - 1)) (.bool dc)
        have q0 := blk_cell q 0 (.slice (some ⟨b, off + 1, none⟩) t.length (cap2 - 1)) rfl
        have q1 := blk_cell q 1 (.bool dc) rfl
        have hO : OnlyIn (fun j => j < w1.heap.size) W3 ((W3.setCell ⟨w.heap.size + 1, 0, none⟩ (.slice (some ⟨b, off + 1, none⟩) t.length (cap2 - 1))).setCell ⟨w.heap.size + 1, 1, none⟩ (.bool dc)) := only_trans (only_set _ ⟨w.heap.size + 1, 0, none⟩ _ hlt2) (only_set _ ⟨w.heap.size + 1, 1, none⟩ _ hlt2)
        have hB := (hbel3.out.setCell (p := ⟨w.heap.size + 1, 0, none⟩) (Nat.le_succ _) (.slice (some ⟨b, off + 1, none⟩) t.length (cap2 - 1))).setCell (p := ⟨w.heap.size + 1, 1, none⟩) (Nat.le_succ _) (.bool dc)
        refine bodyPost_ret (v := .tuple #[.agg #[(.slice (some ⟨b, off + 1, none⟩) t.length (cap2 - 1)), .bool dc], .slice p0 x.length k0, .bool true]) ?_ rfl ⟨_, _, rfl, ⟨_, rfl, rro_mono (show RRo (fun j => j < w1.heap.size) ((W3.setCell ⟨w.heap.size + 1, 0, none⟩ (.slice (some ⟨b, off + 1, none⟩) t.length (cap2 - 1))).setCell ⟨w.heap.size + 1, 1, none⟩ (.bool dc)) _ _ from rro_but hfrom.out hO) (fun j _ hJ => Nat.lt_trans (hold j hJ) hlt)⟩, rio_mono (show RIo (fun j => j < w1.heap.size) ((W3.setCell ⟨w.heap.size + 1, 0, none⟩ (.slice (some ⟨b, off + 1, none⟩) t.length (cap2 - 1))).setCell ⟨w.heap.size + 1, 1, none⟩ (.bool dc)) _ _ from rio_but hru.out hO) (fun j _ hJ => Nat.lt_trans (hold j hJ) hlt), below_on hB (Below.refl _ _).drew⟩
        simp [results, Try.results14, go_sem, q0, q1]
set_option maxHeartbeats 3200000 in
set_option maxRecDepth 100000 in
theorem putC16 : PutC16 := by
  intro J v c vb b w hold hf hbl hv hvb
  unfold Stg.putC
  have hok := Stg.okB_iff b
  obtain ⟨pb, cb, rfl⟩ := ri_form hvb.1
  have hvb0 := rio_up (rio_mono (K := fun _ => False) hvb (fun j _ h => h.elim))
  
  have hk := fun W (h : RCh (Up (fun _ => False) w) W v c) => known16 (Up (fun _ => False) w) v c W hf h
  have hv0 := rch_up (rch_mono (K := fun _ => False) hv (fun j _ h => h.elim))
  obtain ⟨p, cap, rfl, hr0⟩ := rch_form hv0
  obtain ⟨d, hd⟩ : ∃ d, Stg.asC c = d := ⟨_, rfl⟩
  have hsn := Stg.asC_sane c
  rw [hd] at hk hsn ⊢
  have hfd := few_sane hsn
  have hsn2 := (Stg.saneC_iff d).1 hsn
  
  have hb0 := blk_new w #[.slice p c.L.length cap, .bool c.closed] 28
  have hbx := blk_alloc hb0 (.cells #[.slice none 0 0, .bool false] 28)
  have hres := blk_new (w.alloc (.cells #[.slice p c.L.length cap, .bool c.closed] 28)) #[.slice none 0 0, .bool false] 28
  rw [show (w.alloc (.cells #[.slice p c.L.length cap, .bool c.closed] 28)).heap.size = w.heap.size + 1 by simp] at hres
  have hbel0 : Below w.heap.size w ((w.alloc (.cells #[.slice p c.L.length cap, .bool c.closed] 28)).alloc (.cells #[.slice none 0 0, .bool false] 28)) := (below_new w _).alloc (by simp) _
  have hcall := Lib.hid (hk _ (rch_below hv0 hbel0))
  obtain ⟨cl, hcl⟩ : ∃ cl, c.closed = cl := ⟨_, rfl⟩
  obtain ⟨n, hn⟩ : ∃ n, c.L.length = n := ⟨_, rfl⟩
  rw [hcl, hn] at hbel0 hcall hbx hres ⊢
  have c0 := blk_cell hbx 0 (.slice p n cap) rfl
  have c1 := blk_cell hbx 1 (.bool cl) rfl
  replace hbel0 := Lib.hid hbel0
  replace hres := Lib.hid hres
  replace hbx := Lib.hid hbx
  clear hcl hn hv hv0 hk hr0 hd hsn hb0
  obtain ⟨L, dc⟩ := d
  dsimp only at hcall hsn2 ⊢
  obtain ⟨hs1, hs2⟩ := hsn2
  replace hs2 := Lib.hid hs2
  replace hfd := Lib.hid hfd
  have hvb1 := Lib.hid (fun W (h : OnlyIn (Up (fun _ => False) w) w W) => rio_but hvb0 h)
  clear hvb hvb0
  have hblk := fun W => isBlock16 pb cb b W
  obtain ⟨OK, hOK⟩ : ∃ OK, Stg.okB b = OK := ⟨_, rfl⟩
  rw [hOK] at hok ⊢
  replace hblk := fun W => hOK ▸ hblk W
  obtain ⟨m, hm⟩ : ∃ m, b.length = m := ⟨_, rfl⟩
  rw [hm] at hok hbl hvb1 hblk ⊢
  replace hold := Lib.hid hold
  clear hOK
  obtain ⟨Q, hQ⟩ : ∃ Q, (if OK = true ∧ dc = false ∧ L.length < 2 then ((⟨L ++ [b], false⟩ : Ch), true) else (⟨L, dc⟩, false)) = Q := ⟨_, rfl⟩
  rw [hQ]
  replace hQ := Lib.hid hQ
  replace hm := Lib.hid hm
  replace hok := Lib.hid hok
  replace hblk := Lib.hid hblk
  go_enter Try.func11, Try.ntmps11
  go_wp2_with fail
  
  refine hcall.out.mono ?_
  rintro e w1 ⟨v1, rfl, hv1, hb1⟩
  obtain ⟨p1, cap1, rfl, hr1⟩ := rch_form hv1
  dsimp only at hr1
  have hx1 := blk_below hbx.out hb1
  have hy1 := blk_below hres.out hb1
  have hbel1 := below_on hbel0.out hb1
  clear c0 c1 hcall hbel0 hbx hv1 hb1
  clear hres
  
  have f0 := blk_thaw hx1 0
  have f1 := blk_thaw hx1 1
  have g0 := blk_thaw hy1 0
  have g1 := blk_thaw hy1 1
  have c0 := blk_cell hx1 0 (.slice p n cap) rfl
  have c1 := blk_cell hx1 1 (.bool cl) rfl
  have e0 := blk_cell hy1 0 (.slice none 0 0) rfl
  have e1 := blk_cell hy1 1 (.bool false) rfl
  go_upto_region 2 with (fail)
  clear f0 f1 g0 g1 c0 c1 e0 e1
  
  have hx3 := blk_put2 hx1 (.slice p1 L.length cap1) (.bool dc)
  have hy3 := blk_else2 hy1 (by omega : w.heap.size + 1 ≠ w.heap.size) (.slice p1 L.length cap1) (.bool dc)
  have hO3 : OnlyIn (Up (fun _ => False) w) w1 ((w1.setCell ⟨w.heap.size, 0, none⟩ (.slice p1 L.length cap1)).setCell ⟨w.heap.size, 1, none⟩ (.bool dc)) := only_trans (only_set _ ⟨w.heap.size, 0, none⟩ _ (.inr (Nat.le_refl _))) (only_set _ ⟨w.heap.size, 1, none⟩ _ (.inr (Nat.le_refl _)))
  have hbel3 := (hbel1.setCell (p := ⟨w.heap.size, 0, none⟩) (Nat.le_refl _) (.slice p1 L.length cap1)).setCell (p := ⟨w.heap.size, 1, none⟩) (Nat.le_refl _) (.bool dc)
  obtain ⟨W3, hW3⟩ : ∃ W3, (w1.setCell ⟨w.heap.size, 0, none⟩ (.slice p1 L.length cap1)).setCell ⟨w.heap.size, 1, none⟩ (.bool dc) = W3 := ⟨_, rfl⟩
  rw [hW3] at hx3 hy3 hO3 hbel3
  replace hW3 := Lib.hid hW3
  replace hO3 := Lib.hid hO3
  rw [hW3.out]
  have hr3 := rro_but hr1 hO3.out
  have hvb3 := hvb1.out W3 (only_below hbel3)
  have hap := Lib.hid (apart16 _ ⟨L, dc⟩ W3 hfd.out ⟨_, rfl, rro_mono hr3 (fun j _ h => h.elim)⟩)
  
  have f0 := blk_thaw hx3 0
  have f1 := blk_thaw hx3 1
  have g0 := blk_thaw hy3 0
  have g1 := blk_thaw hy3 1
  have c0 := blk_cell hx3 0 (.slice p1 L.length cap1) rfl
  have c1 := blk_cell hx3 1 (.bool dc) rfl
  have e0 := blk_cell hy3 0 (.slice none 0 0) rfl
  have e1 := blk_cell hy3 1 (.bool false) rfl
  replace hx1 := Lib.hid hx1
  replace hy1 := Lib.hid hy1
  replace hbel1 := Lib.hid hbel1
  replace hr1 := Lib.hid hr1
  replace hx3 := Lib.hid hx3
  replace hy3 := Lib.hid hy3
  replace hbel3 := Lib.hid hbel3
  replace hr3 := Lib.hid hr3
  replace hvb3 := Lib.hid hvb3
  go_wp2_with fail
  refine (hblk.out W3).mono ?_
  rintro e w2 ⟨rfl, hw2⟩
  obtain rfl : W3 = w2 := hw2.symm
  rcases OK with _ | _
  · have hno := Lib.hid (show ¬ (false = true ∧ dc = false ∧ L.length < 2) from fun h => by simp at h)
    
    go_wp2_with fail
    
    refine hap.out.mono ?_
    rintro e w9 ⟨v8, rfl, hv8, hb8⟩
    obtain ⟨p8, cap8, rfl, hr8⟩ := rch_form hv8
    dsimp only at hr8
    have hx8 := blk_below hx3.out hb8
    have hy8 := blk_below hy3.out hb8
    have hbel8 := below_on hbel3.out hb8
    have hlt := blk_lt hx3.out
    have hlt2 := blk_lt hy3.out
    clear hap hv8 hb8 hx3 hy3 hbel3 f0 f1 g0 g1 c0 c1 e0 e1
    
    have f0 := blk_thaw hx8 0
    have f1 := blk_thaw hx8 1
    have g0 := blk_thaw hy8 0
    have g1 := blk_thaw hy8 1
    have c0 := blk_cell hx8 0 _ rfl
    have c1 := blk_cell hx8 1 _ rfl
    have e0 := blk_cell hy8 0 (.slice none 0 0) rfl
    have e1 := blk_cell hy8 1 (.bool false) rfl
    replace hr8 := Lib.hid hr8
    replace hbel8 := Lib.hid hbel8
    
    go_wp2_with fail
    
    have hxZ := blk_else2 hx8 (by omega : w.heap.size ≠ w.heap.size + 1) (.slice p8 L.length cap8) (.bool dc)
    have hyZ := blk_put2 hy8 (.slice p8 L.length cap8) (.bool dc)
    have hOZ : OnlyIn (fun j => j < W3.heap.size) w9 ((w9.setCell ⟨w.heap.size + 1, 0, none⟩ (.slice p8 L.length cap8)).setCell ⟨w.heap.size + 1, 1, none⟩ (.bool dc)) := only_trans (only_set _ ⟨w.heap.size + 1, 0, none⟩ _ hlt2) (only_set _ ⟨w.heap.size + 1, 1, none⟩ _ hlt2)
    have hbelZ := (hbel8.out.setCell (p := ⟨w.heap.size + 1, 0, none⟩) (Nat.le_succ _) (.slice p8 L.length cap8)).setCell (p := ⟨w.heap.size + 1, 1, none⟩) (Nat.le_succ _) (.bool dc)
    obtain ⟨W9, hW9⟩ : ∃ W9, (w9.setCell ⟨w.heap.size + 1, 0, none⟩ (.slice p8 L.length cap8)).setCell ⟨w.heap.size + 1, 1, none⟩ (.bool dc) = W9 := ⟨_, rfl⟩
    rw [hW9] at hxZ hyZ hOZ hbelZ
    replace hW9 := Lib.hid hW9
    replace hOZ := Lib.hid hOZ
    
    rw [hW9.out]
    have q0 := blk_cell hyZ 0 (.slice p8 L.length cap8) rfl
    have q1 := blk_cell hyZ 1 (.bool dc) rfl
    
    refine bodyPost_ret (v := .tuple #[.agg #[.slice p8 L.length cap8, .bool dc], .bool false]) ?_ rfl ⟨_, by rw [← hQ.out, if_neg hno.out], by rw [← hQ.out, if_neg hno.out]; exact ⟨_, rfl, rro_mono (rro_but hr8.out hOZ.out) (fun j _ hJ => Nat.lt_trans (hold.out j hJ) hlt)⟩, hbelZ⟩
    
    simp [results, Try.results11, go_sem, q0, q1]
    all_goals omega
  · rcases dc with _ | _
    · by_cases h3 : 2 ≤ L.length
      · have n3 : ¬ (L.length : Int) < 2 := by omega
        have n3' : (2 : Int) ≤ (L.length : Int) := by omega
        have hno := Lib.hid (show ¬ (true = true ∧ false = false ∧ L.length < 2) from fun h => by omega)
        
        go_wp2_with fail
        
        refine hap.out.mono ?_
        rintro e w9 ⟨v8, rfl, hv8, hb8⟩
        obtain ⟨p8, cap8, rfl, hr8⟩ := rch_form hv8
        dsimp only at hr8
        have hx8 := blk_below hx3.out hb8
        have hy8 := blk_below hy3.out hb8
        have hbel8 := below_on hbel3.out hb8
        have hlt := blk_lt hx3.out
        have hlt2 := blk_lt hy3.out
        clear hap hv8 hb8 hx3 hy3 hbel3 f0 f1 g0 g1 c0 c1 e0 e1
        
        have f0 := blk_thaw hx8 0
        have f1 := blk_thaw hx8 1
        have g0 := blk_thaw hy8 0
        have g1 := blk_thaw hy8 1
        have c0 := blk_cell hx8 0 _ rfl
        have c1 := blk_cell hx8 1 _ rfl
        have e0 := blk_cell hy8 0 (.slice none 0 0) rfl
        have e1 := blk_cell hy8 1 (.bool false) rfl
        replace hr8 := Lib.hid hr8
        replace hbel8 := Lib.hid hbel8
        
        go_wp2_with fail
        
        have hxZ := blk_else2 hx8 (by omega : w.heap.size ≠ w.heap.size + 1) (.slice p8 L.length cap8) (.bool false)
        have hyZ := blk_put2 hy8 (.slice p8 L.length cap8) (.bool false)
        have hOZ : OnlyIn (fun j => j < W3.heap.size) w9 ((w9.setCell ⟨w.heap.size + 1, 0, none⟩ (.slice p8 L.length cap8)).setCell ⟨w.heap.size + 1, 1, none⟩ (.bool false)) := only_trans (only_set _ ⟨w.heap.size + 1, 0, none⟩ _ hlt2) (only_set _ ⟨w.heap.size + 1, 1, none⟩ _ hlt2)
        have hbelZ := (hbel8.out.setCell (p := ⟨w.heap.size + 1, 0, none⟩) (Nat.le_succ _) (.slice p8 L.length cap8)).setCell (p := ⟨w.heap.size + 1, 1, none⟩) (Nat.le_succ _) (.bool false)
        obtain ⟨W9, hW9⟩ : ∃ W9, (w9.setCell ⟨w.heap.size + 1, 0, none⟩ (.slice p8 L.length cap8)).setCell ⟨w.heap.size + 1, 1, none⟩ (.bool false) = W9 := ⟨_, rfl⟩
        rw [hW9] at hxZ hyZ hOZ hbelZ
        replace hW9 := Lib.hid hW9
        replace hOZ := Lib.hid hOZ
        
        rw [hW9.out]
        have q0 := blk_cell hyZ 0 (.slice p8 L.length cap8) rfl
        have q1 := blk_cell hyZ 1 (.bool false) rfl
        
        refine bodyPost_ret (v := .tuple #[.agg #[.slice p8 L.length cap8, .bool false], .bool false]) ?_ rfl ⟨_, by rw [← hQ.out, if_neg hno.out], by rw [← hQ.out, if_neg hno.out]; exact ⟨_, rfl, rro_mono (rro_but hr8.out hOZ.out) (fun j _ hJ => Nat.lt_trans (hold.out j hJ) hlt)⟩, hbelZ⟩
        
        simp [results, Try.results11, go_sem, q0, q1]
        all_goals omega
      · have n3 : (L.length : Int) < 2 := by omega
        have h4 : L.length < 2 := by omega
        clear hap
        have hbeh := Lib.hid (behind16 (fun j => j = w.heap.size ∨ j = w.heap.size + 1) _ _ L b W3 (fun j hj => by have := blk_lt hx3.out; have := blk_lt hy3.out; omega) (by omega) (rro_mono hr3.out (fun j _ hj => .inr (by omega))) (rio_mono hvb3.out (fun j _ hj => .inr (by omega))))
        have hokm := hok.out.1 rfl
        go_wp2_with fail
        refine hbeh.out.mono ?_
        rintro e w4 ⟨v4, rfl, hr4, hb4⟩
        obtain ⟨p4, cap4, rfl⟩ := rro_form hr4
        obtain ⟨q, hq⟩ : ∃ q, (L ++ [b]).length = q := ⟨_, rfl⟩
        rw [hq] at hr4 ⊢
        have hx4 := blk_below hx3.out hb4
        have hy4 := blk_below hy3.out hb4
        have hbel4 := below_on hbel3.out hb4
        clear hbeh hb4 hx3 hy3 hbel3 f0 f1 g0 g1 c0 c1 e0 e1
        
        have f0 := blk_thaw hx4 0
        have f1 := blk_thaw hx4 1
        have g0 := blk_thaw hy4 0
        have g1 := blk_thaw hy4 1
        have c0 := blk_cell hx4 0 (.slice p1 L.length cap1) rfl
        have c1 := blk_cell hx4 1 (.bool false) rfl
        have e0 := blk_cell hy4 0 (.slice none 0 0) rfl
        have e1 := blk_cell hy4 1 (.bool false) rfl
        go_upto_region 5 with (fail)
        have hx5 := blk_setAt16 hx4 0 (.slice p4 q cap4)
        have hy5 := blk_other16 hy4 ⟨w.heap.size, 0, none⟩ (.slice p4 q cap4) (by show w.heap.size + 1 ≠ w.heap.size; omega)
        have hbel5 := hbel4.setCell (p := ⟨w.heap.size, 0, none⟩) (Nat.le_refl _) (.slice p4 q cap4)
        have hr5 := rro_but hr4 (only_set (J := fun j => j = w.heap.size ∨ j = w.heap.size + 1) w4 ⟨w.heap.size, 0, none⟩ (.slice p4 q cap4) (.inl rfl))
        clear f0 f1 g0 g1 c0 c1 e0 e1
        obtain ⟨W5, hW5⟩ : ∃ W5, w4.setCell ⟨w.heap.size, 0, none⟩ (.slice p4 q cap4) = W5 := ⟨_, rfl⟩
        rw [hW5] at hx5 hy5 hbel5 hr5 ⊢
        replace hW5 := Lib.hid hW5
        have hfew : (⟨L ++ [b], false⟩ : Ch).Few := few_sane ((Stg.saneC_iff _).2 ⟨by simp; omega, fun x hx => by
          rcases List.mem_append.1 hx with hx | hx
          · exact hs2.out x hx
          · obtain rfl : x = b := by simpa using hx
            have := hm.out
            omega⟩)
        have hap := Lib.hid (apart16 (.agg #[.slice p4 q cap4, .bool false]) ⟨L ++ [b], false⟩ W5 hfew ⟨_, rfl, rro_mono hr5 (fun j _ h => h.elim)⟩)
        
        have f0 := blk_thaw hx5 0
        have f1 := blk_thaw hx5 1
        have g0 := blk_thaw hy5 0
        have g1 := blk_thaw hy5 1
        have c0 := blk_cell hx5 0 (.slice p4 q cap4) rfl
        have c1 := blk_cell hx5 1 (.bool false) rfl
        have e0 := blk_cell hy5 0 (.slice none 0 0) rfl
        have e1 := blk_cell hy5 1 (.bool false) rfl
        replace hx4 := Lib.hid hx4
        replace hy4 := Lib.hid hy4
        replace hbel4 := Lib.hid hbel4
        replace hr4 := Lib.hid hr4
        replace hx5 := Lib.hid hx5
        replace hy5 := Lib.hid hy5
        replace hbel5 := Lib.hid hbel5
        replace hr5 := Lib.hid hr5
        have hQe := hQ.out
        rw [if_pos ⟨by trivial, by trivial, h4⟩] at hQe
        replace hQe := Lib.hid hQe
        replace hq := Lib.hid hq
        
        go_wp2_with fail
        
        refine hap.out.mono ?_
        rintro e w9 ⟨v8, rfl, hv8, hb8⟩
        obtain ⟨p8, cap8, rfl, hr8⟩ := rch_form hv8
        dsimp only at hr8; rw [hq.out] at hr8 ⊢
        have hx8 := blk_below hx5.out hb8
        have hy8 := blk_below hy5.out hb8
        have hbel8 := below_on hbel5.out hb8
        have hlt := blk_lt hx5.out
        have hlt2 := blk_lt hy5.out
        clear hap hv8 hb8 hx5 hy5 hbel5 f0 f1 g0 g1 c0 c1 e0 e1
        
        have f0 := blk_thaw hx8 0
        have f1 := blk_thaw hx8 1
        have g0 := blk_thaw hy8 0
        have g1 := blk_thaw hy8 1
        have c0 := blk_cell hx8 0 _ rfl
        have c1 := blk_cell hx8 1 _ rfl
        have e0 := blk_cell hy8 0 (.slice none 0 0) rfl
        have e1 := blk_cell hy8 1 (.bool false) rfl
        replace hr8 := Lib.hid hr8
        replace hbel8 := Lib.hid hbel8
        
        go_wp2_with fail
        
        have hxZ := blk_else2 hx8 (by omega : w.heap.size ≠ w.heap.size + 1) (.slice p8 q cap8) (.bool false)
        have hyZ := blk_put2 hy8 (.slice p8 q cap8) (.bool false)
        have hOZ : OnlyIn (fun j => j < W5.heap.size) w9 ((w9.setCell ⟨w.heap.size + 1, 0, none⟩ (.slice p8 q cap8)).setCell ⟨w.heap.size + 1, 1, none⟩ (.bool false)) := only_trans (only_set _ ⟨w.heap.size + 1, 0, none⟩ _ hlt2) (only_set _ ⟨w.heap.size + 1, 1, none⟩ _ hlt2)
        have hbelZ := (hbel8.out.setCell (p := ⟨w.heap.size + 1, 0, none⟩) (Nat.le_succ _) (.slice p8 q cap8)).setCell (p := ⟨w.heap.size + 1, 1, none⟩) (Nat.le_succ _) (.bool false)
        obtain ⟨W9, hW9⟩ : ∃ W9, (w9.setCell ⟨w.heap.size + 1, 0, none⟩ (.slice p8 q cap8)).setCell ⟨w.heap.size + 1, 1, none⟩ (.bool false) = W9 := ⟨_, rfl⟩
        rw [hW9] at hxZ hyZ hOZ hbelZ
        replace hW9 := Lib.hid hW9
        replace hOZ := Lib.hid hOZ
        
        rw [hW9.out]
        have q0 := blk_cell hyZ 0 (.slice p8 q cap8) rfl
        have q1 := blk_cell hyZ 1 (.bool false) rfl
        
        refine bodyPost_ret (v := .tuple #[.agg #[.slice p8 q cap8, .bool false], .bool true]) ?_ rfl ⟨_, by rw [← hQe.out], by rw [← hQe.out]; exact ⟨_, rfl, rro_mono (rro_but hr8.out hOZ.out) (fun j _ hJ => Nat.lt_trans (hold.out j hJ) hlt)⟩, hbelZ⟩
        
        simp [results, Try.results11, go_sem, q0, q1]
        all_goals omega
    · have hno := Lib.hid (show ¬ (true = true ∧ true = false ∧ L.length < 2) from fun h => by simp at h)
      
      go_wp2_with fail
      
      refine hap.out.mono ?_
      rintro e w9 ⟨v8, rfl, hv8, hb8⟩
      obtain ⟨p8, cap8, rfl, hr8⟩ := rch_form hv8
      dsimp only at hr8
      have hx8 := blk_below hx3.out hb8
      have hy8 := blk_below hy3.out hb8
      have hbel8 := below_on hbel3.out hb8
      have hlt := blk_lt hx3.out
      have hlt2 := blk_lt hy3.out
      clear hap hv8 hb8 hx3 hy3 hbel3 f0 f1 g0 g1 c0 c1 e0 e1
      
      have f0 := blk_thaw hx8 0
      have f1 := blk_thaw hx8 1
      have g0 := blk_thaw hy8 0
      have g1 := blk_thaw hy8 1
      have c0 := blk_cell hx8 0 _ rfl
      have c1 := blk_cell hx8 1 _ rfl
      have e0 := blk_cell hy8 0 (.slice none 0 0) rfl
      have e1 := blk_cell hy8 1 (.bool false) rfl
      replace hr8 := Lib.hid hr8
      replace hbel8 := Lib.hid hbel8
      
      go_wp2_with fail
      
      have hxZ := blk_else2 hx8 (by omega : w.heap.size ≠ w.heap.size + 1) (.slice p8 L.length cap8) (.bool true)
      have hyZ := blk_put2 hy8 (.slice p8 L.length cap8) (.bool true)
      have hOZ : OnlyIn (fun j => j < W3.heap.size) w9 ((w9.setCell ⟨w.heap.size + 1, 0, none⟩ (.slice p8 L.length cap8)).setCell ⟨w.heap.size + 1, 1, none⟩ (.bool true)) := only_trans (only_set _ ⟨w.heap.size + 1, 0, none⟩ _ hlt2) (only_set _ ⟨w.heap.size + 1, 1, none⟩ _ hlt2)
      have hbelZ := (hbel8.out.setCell (p := ⟨w.heap.size + 1, 0, none⟩) (Nat.le_succ _) (.slice p8 L.length cap8)).setCell (p := ⟨w.heap.size + 1, 1, none⟩) (Nat.le_succ _) (.bool true)
      obtain ⟨W9, hW9⟩ : ∃ W9, (w9.setCell ⟨w.heap.size + 1, 0, none⟩ (.slice p8 L.length cap8)).setCell ⟨w.heap.size + 1, 1, none⟩ (.bool true) = W9 := ⟨_, rfl⟩
      rw [hW9] at hxZ hyZ hOZ hbelZ
      replace hW9 := Lib.hid hW9
      replace hOZ := Lib.hid hOZ
      
      rw [hW9.out]
      have q0 := blk_cell hyZ 0 (.slice p8 L.length cap8) rfl
      have q1 := blk_cell hyZ 1 (.bool true) rfl
      
      refine bodyPost_ret (v := .tuple #[.agg #[.slice p8 L.length cap8, .bool true], .bool false]) ?_ rfl ⟨_, by rw [← hQ.out, if_neg hno.out], by rw [← hQ.out, if_neg hno.out]; exact ⟨_, rfl, rro_mono (rro_but hr8.out hOZ.out) (fun j _ hJ => Nat.lt_trans (hold.out j hJ) hlt)⟩, hbelZ⟩
      
      simp [results, Try.results11, go_sem, q0, q1]
      all_goals omega
set_option maxHeartbeats 3200000 in
set_option maxRecDepth 100000 in
theorem countC16 : CountC16 := by
  intro J v c w hf hv
  unfold Stg.countC
  
  have hk := fun W (h : RCh (Up (fun _ => False) w) W v c) => known16 (Up (fun _ => False) w) v c W hf h
  have hv0 := rch_up (rch_mono (K := fun _ => False) hv (fun j _ h => h.elim))
  obtain ⟨p, cap, rfl, hr0⟩ := rch_form hv0
  obtain ⟨d, hd⟩ : ∃ d, Stg.asC c = d := ⟨_, rfl⟩
  have hsn := Stg.asC_sane c
  rw [hd] at hk hsn ⊢
  have hfd := few_sane hsn
  have hsn2 := (Stg.saneC_iff d).1 hsn
  
  have hbx := blk_new w #[.slice p c.L.length cap, .bool c.closed] 28
  have hbel0 := below_new w (.cells #[.slice p c.L.length cap, .bool c.closed] 28)
  have hcall := Lib.hid (hk _ (rch_below hv0 hbel0))
  obtain ⟨cl, hcl⟩ : ∃ cl, c.closed = cl := ⟨_, rfl⟩
  obtain ⟨n, hn⟩ : ∃ n, c.L.length = n := ⟨_, rfl⟩
  rw [hcl, hn] at hbel0 hcall hbx ⊢
  have c0 := blk_cell hbx 0 (.slice p n cap) rfl
  have c1 := blk_cell hbx 1 (.bool cl) rfl
  replace hbel0 := Lib.hid hbel0
  replace hbx := Lib.hid hbx
  clear hcl hn hv hv0 hk hr0 hd hsn
  obtain ⟨L, dc⟩ := d
  dsimp only at hcall hsn2 ⊢
  obtain ⟨hs1, hs2⟩ := hsn2
  replace hs2 := Lib.hid hs2
  replace hfd := Lib.hid hfd
  have hft := fun j h => flat_take16 L j h
  have hfd0 : ∀ (p1 : Option Addr) (n1 c1 : Nat) (b1 : Bool) (W : World), (Instr.field 28 (.agg #[.slice p1 n1 c1, .bool b1]) 0).run Try.prog W = .ok (.slice p1 n1 c1) W := fun _ _ _ _ _ => by kernel_rfl
  replace hft := Lib.hid hft
  go_enter Try.func24, Try.ntmps24
  go_wp2_with fail
  
  refine hcall.out.mono ?_
  rintro e w1 ⟨v1, rfl, hv1, hb1⟩
  obtain ⟨p1, cap1, rfl, hr1⟩ := rch_form hv1
  dsimp only at hr1
  have hx1 := blk_below hbx.out hb1
  have hbel1 := below_on hbel0.out hb1
  clear c0 c1 hcall hbel0 hbx hv1 hb1
  replace hbel1 := Lib.hid hbel1
  replace hr1 := Lib.hid hr1
  clear hx1
  go_wp2_with fail
  go_loopg [3, 5, 10] L.length (fun g vn vb vi wr => ∃ k : Nat, k ≤ L.length ∧ vi = .int .i64 k ∧ g = L.length - k ∧ wr = w1 ∧ vn = .int .i64 ((L.take k).flatten.length : Nat) ∧ (L.take k).flatten.length ≤ 8 * k)
  case atStart => exact ⟨0, Nat.zero_le _, rfl, rfl, rfl, rfl, Nat.le_refl _⟩
  case round =>
    obtain ⟨k, hk, rfl, rfl, rfl, rfl, hle⟩ := hrel
    by_cases hlt : k < L.length
    · have hlt' : (k : Int) < (L.length : Int) := by omega
      obtain ⟨b, off, rfl, hb, hJ, hcell⟩ := rro_at hr1.out (by omega)
      obtain ⟨u, hu, hru⟩ := hcell k hlt
      obtain ⟨pk, ck, rfl⟩ := ri_form hru.1
      have hlk := hs2.out L[k] (List.getElem_mem hlt)
      have hnx := hft.out k hlt
      obtain ⟨m, hm⟩ : ∃ m, L[k].length = m := ⟨_, rfl⟩
      obtain ⟨t, ht⟩ : ∃ t, (L.take k).flatten.length = t := ⟨_, rfl⟩
      obtain ⟨t2, ht2⟩ : ∃ t2, (L.take (k + 1)).flatten.length = t2 := ⟨_, rfl⟩
      rw [hm] at hu hlk hnx
      rw [ht] at hle hnx ⊢
      rw [ht2] at hnx
      replace ht2 := Lib.hid ht2
      replace hnx := Lib.hid hnx
      clear hcell hru hm ht
      obtain ⟨hl1, hl2⟩ := hlk
      have hI : (0 : Int) ≤ (t : Int) + (m : Int) := by omega
      have hI2 : (t : Int) + (m : Int) ≤ 100 := by omega
      go_wp2_with fail
      go_roundg (L.length - (k + 1))
      case measure => omega
      case rel => exact ⟨k + 1, by omega, by go_num, rfl, rfl, by rw [ht2.out, hnx.out]; go_num, by rw [ht2.out, hnx.out]; omega⟩
    · obtain rfl : k = L.length := by omega
      have hlt' : decide ((L.length : Int) < (L.length : Int)) = false := by simp
      rw [List.take_length] at hle ⊢
      obtain ⟨t, ht⟩ : ∃ t, L.flatten.length = t := ⟨_, rfl⟩
      rw [ht] at hle ⊢
      go_wp2_with fail
      go_ret
      exact ⟨by rw [ht]; rfl, hbel1.out⟩
end Go.Proofs.Ytcbfgcmdlfediaa
