/- Texts that stand together. -/
import Derived.Test.YtiidjkhkcckmkaaGreatDoorNoP
/- Layer 9: Feed. -/
namespace Go.Proofs.YtiidjkhkcckmkaaGreatDoor
set_option linter.unusedSimpArgs false
set_option linter.unusedVariables false
open Go.RowKit Go.Lib
theorem blk_low {B : Nat} {w w1 : World} {k : Nat} {cs : Array Value} {T : TypeId} (h : Blk w k cs T) (hk : k < B) (hb : Below B w w1) : Blk w1 k cs T := by
  unfold Blk at *
  rw [hb.block k hk]
  exact h
theorem set2 {w : World} {a : Addr} {b : Nat} {x y u : Value} (hne : a.block ≠ b) (h : w.cell? ⟨b, 0, none⟩ = some x ∧ w.cell? ⟨b, 1, none⟩ = some y) : (w.setCell a u).cell? ⟨b, 0, none⟩ = some x ∧ (w.setCell a u).cell? ⟨b, 1, none⟩ = some y := by
  constructor
  · rw [World.cell?_setCell_other]
    · exact h.1
    · intro e; exact hne (congrArg Addr.block e)
  · rw [World.cell?_setCell_other]
    · exact h.2
    · intro e; exact hne (congrArg Addr.block e)
theorem at9_start {B : Nat} {va : Value} {m : List Int} {w : World} (ho : OwnI B va m w) (hB : B ≤ w.heap.size) : At9 B w.heap.size none (w.alloc (.cells #[va, .slice none 0 0] 123)) m [] va (.slice none 0 0) (w.alloc (.cells #[va, .slice none 0 0] 123)) := by
  refine ⟨blk_new _ _ _, ownI_alloc ho _, ownI_nil _ _, hB, ?_, (fun _ e => by cases e), Below.refl _ _, (fun _ e => by cases e)⟩
  cases h : va.ownBlock with
  | none => exact .inl rfl
  | some k => exact .inr (fun e => by cases e)
set_option maxHeartbeats 3200000 in
set_option maxRecDepth 100000 in
theorem feedC9 : FeedC9 := by
  intro v l r w hl hv
  obtain ⟨p, cap, rfl⟩ := ri_form hv
  have hbox0 := blk_new w #[.slice p l.length cap] 36
  have hbox := blk_alloc hbox0 (.cells #[.slice none 0 0] 36)
  have hres := blk_new (w.alloc (.cells #[.slice p l.length cap] 36)) #[.slice none 0 0] 36
  rw [show (w.alloc (.cells #[.slice p l.length cap] 36)).heap.size = w.heap.size + 1 by simp] at hres
  have hb0 : Below w.heap.size w ((w.alloc (.cells #[.slice p l.length cap] 36)).alloc (.cells #[.slice none 0 0] 36)) := (below_new w _).alloc (by simp) _
  have hz0 : w.heap.size + 2 ≤ ((w.alloc (.cells #[.slice p l.length cap] 36)).alloc (.cells #[.slice none 0 0] 36)).heap.size := by simp
  obtain ⟨W, hW⟩ : ∃ W, (w.alloc (.cells #[.slice p l.length cap] 36)).alloc (.cells #[.slice none 0 0] 36) = W := ⟨_, rfl⟩
  have hvW := ri_below hv hb0
  rw [hW] at hbox hres hb0 hvW hz0
  have hco := copied_any (.slice p l.length cap) l W hl hvW
  have hwk := well_kept l
  have hfd : Nor.feedI l r = Nor.runI (wellI l) (Dcp.fullI r) := rfl
  rw [hfd]
  obtain ⟨m, hm⟩ : ∃ m, wellI l = m := ⟨_, rfl⟩
  rw [hm] at hco hwk ⊢
  obtain ⟨L, T, hres9⟩ : ∃ L T, Nor.runI m (Dcp.fullI r) = (L, T) := ⟨_, _, rfl⟩
  have hLT := Lib.hid (show (Nor.runI m (Dcp.fullI r)).1 = L ∧ (Nor.runI m (Dcp.fullI r)).2 = T by rw [hres9]; exact ⟨rfl, rfl⟩)
  rw [hres9]
  replace hbox := Lib.hid hbox
  replace hres := Lib.hid hres
  replace hb0 := Lib.hid hb0
  replace hco := Lib.hid hco
  replace hW := Lib.hid hW
  replace hwk := Lib.hid hwk
  clear hv hbox0 hfd hm hvW hres9
  go_enter Tryz.func58, Tryz.ntmps58
  go_upto_region 1 with (fail)
  rw [hW.out]
  have b0 := blk_cell hbox.out 0 _ rfl
  go_wp2_with fail
  refine hco.out.mono ?_
  rintro e w2 ⟨va, rfl, ho2, hb2⟩
  obtain ⟨pa, ca, rfl⟩ := ri_form (ri_of_own ho2)
  replace ho2 := Lib.hid ho2
  have hr2 := Lib.hid (blk_below hres.out hb2)
  replace hb2 := Lib.hid hb2
  clear b0
  go_wp2_with fail
  have hB2 : W.heap.size ≤ w2.heap.size := hb2.out.size
  have hpf := pfeed_any W.heap.size w2.heap.size m [] r _ _ _ hwk.out (by simp) (at9_start ho2.out hB2)
  rw [List.nil_append, hLT.out.1, hLT.out.2] at hpf
  have hbel := Lib.hid (hb0.out.trans ((hb2.out.alloc hB2 (.cells #[Value.slice pa m.length ca, .slice none 0 0] 123)).mono hb0.out.size))
  replace hr2 := Lib.hid (blk_alloc hr2.out (.cells #[Value.slice pa m.length ca, .slice none 0 0] 123))
  refine hpf.mono ?_
  rintro e w4 ⟨rfl, vl, vt, q⟩
  obtain ⟨pl, cl, rfl⟩ := ri_form (ri_of_own q.kept)
  obtain ⟨pt, ct, rfl⟩ := ri_form (ri_of_own q.told)
  have hb4 := Lib.hid (hbel.out.trans (q.below.mono (by omega)))
  have hr4 := blk_low hr2.out (by omega) q.below
  have r4 := blk_cell hr4 0 _ rfl
  have f4 := blk_thaw hr4 0
  have q4 := Lib.hid q
  have e0 := blk_cell q.box 0 _ rfl
  have e1 := blk_cell q.box 1 _ rfl
  have hlt : w.heap.size + 1 < W.heap.size := by omega
  have hne0 := Lib.hid (show w.heap.size + 1 ≠ w2.heap.size by omega)
  clear q hpf
  go_upto_region 3 with (fail)
  refine wp_region_held_drew (S := fun w' => w'.cell? ⟨w2.heap.size, 0, none⟩ = some (.slice pl L.length cl) ∧ w'.cell? ⟨w2.heap.size, 1, none⟩ = some (.slice pt T.length ct)) (by kernel_rfl) (⟨e0, e1⟩) (fun hS => ?_)
  refine' wpAnyH_take (i := 0) (oi := ⟨_, _, _, _, _, _⟩) (v := _) rfl (by kernel_rfl) (by kernel_rfl) (by kernel_rfl) (fun _ _ _ h => h) (Or.inl ⟨by rfl, ?hy0⟩) hS ?rest0
  case hy0 => (intro wz hSw; (try dsimp only at hSw); go_simp; try with_reducible rfl)
  try simp only [Act.put, List.setIfInBounds_toArray, List.set_cons_zero, List.set_cons_succ]
  refine' wpAnyH_take (i := 1) (oi := ⟨_, _, _, _, _, _⟩) (v := _) rfl (by kernel_rfl) (by kernel_rfl) (by kernel_rfl) (fun _ _ _ h => h) (Or.inl ⟨by rfl, ?hy1⟩) hS ?rest1
  case hy1 => (intro wz hSw; (try dsimp only at hSw); go_simp; try with_reducible rfl)
  try simp only [Act.put, List.setIfInBounds_toArray, List.set_cons_zero, List.set_cons_succ]
  refine' wpAnyH_take (i := 2) (oi := ⟨_, _, _, _, _, _⟩) (v := _) rfl (by kernel_rfl) (by kernel_rfl) (by kernel_rfl) (fun _ _ _ h => h) (Or.inl ⟨by rfl, ?hy2⟩) hS ?rest2
  case hy2 => (intro wz hSw; (try dsimp only at hSw); go_simp; try with_reducible rfl)
  try simp only [Act.put, List.setIfInBounds_toArray, List.set_cons_zero, List.set_cons_succ]
  refine' wpAnyH_take (i := 3) (oi := ⟨_, _, _, _, _, _⟩) (v := _) rfl (by kernel_rfl) (by kernel_rfl) (by kernel_rfl) (fun _ _ _ h => h) (Or.inl ⟨by rfl, ?hy3⟩) hS ?rest3
  case hy3 => (intro wz hSw; (try dsimp only at hSw); go_simp; try with_reducible rfl)
  try simp only [Act.put, List.setIfInBounds_toArray, List.set_cons_zero, List.set_cons_succ]
  refine wpAnyH_ready (rs := [4]) (by kernel_rfl) (by simp) (AllReadyH.cons rfl (fun K hK => ?_) AllReadyH.nil)
  go_simp
  go_wp2_with fail
  refine hK.out _ _ (set2 hne0.out hS) (fun hSn => ?_)
  clear hS
  have hS := hSn
  clear hSn
  clear hK K
  try simp only [Act.put, List.setIfInBounds_toArray, List.set_cons_zero, List.set_cons_succ]
  refine' wpAnyH_take (i := 5) (oi := ⟨_, _, _, _, _, _⟩) (v := _) rfl (by kernel_rfl) (by kernel_rfl) (by kernel_rfl) (fun _ _ _ h => h) (Or.inl ⟨by rfl, ?hy5⟩) hS ?rest5
  case hy5 => (intro wz hSw; (try dsimp only at hSw); go_simp; try with_reducible rfl)
  try simp only [Act.put, List.setIfInBounds_toArray, List.set_cons_zero, List.set_cons_succ]
  refine wpAnyH_done (by kernel_rfl) ?_ _
  have o1 := Lib.hid (ownI_mono (ownI_set q4.out.kept ⟨w.heap.size + 1, 0, none⟩ (.slice pl L.length cl) (ownI_ne q4.out.kept hlt)) (show w.heap.size ≤ W.heap.size by omega))
  have o2 := Lib.hid (ownI_mono (ownI_set q4.out.told ⟨w.heap.size + 1, 0, none⟩ (.slice pl L.length cl) (ownI_ne q4.out.told hlt)) (show w.heap.size ≤ W.heap.size by omega))
  have hb5 := Lib.hid (hb4.out.setCell (p := ⟨w.heap.size + 1, 0, none⟩) (Nat.le_succ _) (.slice pl L.length cl))
  have d4 := blk_cell (blk_set (u := .slice pl L.length cl) hr4) 0 _ rfl
  go_wp2_with fail
  refine bodyPost_ret (v := .tuple #[.agg #[.slice pl L.length cl], .slice pt T.length ct]) ?_ rfl ⟨_, _, rfl, o1.out, o2.out, hb5.out.drew⟩
  simp [results, Tryz.results58, go_sem, d4]
end Go.Proofs.YtiidjkhkcckmkaaGreatDoor

/- Layer 9: End. -/
namespace Go.Proofs.YtiidjkhkcckmkaaGreatDoor
set_option linter.unusedSimpArgs false
set_option linter.unusedVariables false
open Go.RowKit Go.Lib
theorem field_state (v : Value) (w : World) : (Instr.field 36 (.agg #[v]) 0).run Tryz.prog w = .ok v w := by kernel_rfl
set_option maxHeartbeats 1600000 in
set_option maxRecDepth 100000 in
theorem end9_own (v : Value) (l : List Int) (w : World) (hl : l.length ≤ 10000) (hv : RI w v l) : Calls Tryz.prog 74 #[.agg #[v]] w (Makes (Nor.endI l) w) := by
  obtain ⟨p, cap, rfl⟩ := ri_form hv
  have hbox := blk_new w #[.slice p l.length cap] 36
  have hb0 := below_new w (.cells #[.slice p l.length cap] 36)
  obtain ⟨W, hW⟩ : ∃ W, w.alloc (.cells #[.slice p l.length cap] 36) = W := ⟨_, rfl⟩
  have hvW := ri_below hv hb0
  rw [hW] at hbox hb0 hvW
  rw [well_end]
  have hco := copied_any (.slice p l.length cap) l W hl hvW
  have hwl := Nor.kept_len (well_kept l)
  obtain ⟨m, hm⟩ : ∃ m, wellI l = m := ⟨_, rfl⟩
  rw [hm] at hco hwl ⊢
  have hcm := fun V (W : World) h => compose_own7 joinYes joinNot V m W (by omega) h
  obtain ⟨E, hE⟩ : ∃ E, Can.composeI m = E := ⟨_, rfl⟩
  rw [hE] at hcm ⊢
  replace hcm := Lib.hid hcm
  replace hco := Lib.hid hco
  replace hW := Lib.hid hW
  replace hb0 := Lib.hid hb0
  replace hbox := Lib.hid hbox
  clear hv hvW hE hm
  go_enter Tryz.func74, Tryz.ntmps74
  go_upto_region 1 with (fail)
  rw [hW.out]
  have b0 := blk_cell hbox.out 0 _ rfl
  go_wp2_with fail
  refine hco.out.mono ?_
  rintro e w2 ⟨va, rfl, ho2, hb2⟩
  obtain ⟨pa, ca, rfl⟩ := ri_form (ri_of_own ho2)
  have hv2 := Lib.hid (ri_of_own ho2)
  replace hb2 := Lib.hid (hb0.out.trans (hb2.mono hb0.out.size))
  clear b0 ho2
  have hfd := field_state (.slice pa m.length ca) w2
  go_wp2_with fail
  refine (hcm.out _ _ hv2.out).mono ?_
  rintro e w3 ⟨v3, rfl, hv3, hb3⟩
  replace hv3 := Lib.hid hv3
  replace hb3 := Lib.hid (below_on hb2.out hb3)
  go_wp2_with fail
  go_ret
  exact ⟨_, rfl, ownI_mono hv3.out hb2.out.size, hb3.out⟩
end Go.Proofs.YtiidjkhkcckmkaaGreatDoor

