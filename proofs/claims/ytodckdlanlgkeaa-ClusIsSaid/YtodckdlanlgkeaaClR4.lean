/- Layer 11: the document's Cuts. -/
import Derived.Test.YtodckdlanlgkeaaClR3
import Derived.Test.YtodckdlanlgkeaaG3
import Derived.Test.YtodckdlanlgkeaaNoB
import Derived.Test.YtodckdlanlgkeaaK1
namespace Go.Proofs.Ytodckdlanlgkeaa
set_option linter.unusedSimpArgs false
set_option linter.unusedVariables false
open Go.RowKit Go.Lib

theorem held5 {w w1 : World} {a0 a1 a2 a3 a4 : Addr} {u0 u1 u2 u3 u4 : Value} (hb : Below w.heap.size w w1) (h : w.cell? a0 = some u0 ∧ w.cell? a1 = some u1 ∧ w.cell? a2 = some u2 ∧ w.cell? a3 = some u3 ∧ w.cell? a4 = some u4) :
    w1.cell? a0 = some u0 ∧ w1.cell? a1 = some u1 ∧ w1.cell? a2 = some u2 ∧ w1.cell? a3 = some u3 ∧ w1.cell? a4 = some u4 := by
  obtain ⟨h0, h1, h2, h3, h4⟩ := h
  exact ⟨by rw [hb.cell (World.block_lt_of_cell? _ _ h0)]; exact h0, by rw [hb.cell (World.block_lt_of_cell? _ _ h1)]; exact h1, by rw [hb.cell (World.block_lt_of_cell? _ _ h2)]; exact h2, by rw [hb.cell (World.block_lt_of_cell? _ _ h3)]; exact h3, by rw [hb.cell (World.block_lt_of_cell? _ _ h4)]; exact h4⟩

theorem ownT_not {B k : Nat} {v : Value} {l : List Bool} {w : World} (h : OwnT B v l w) (hk : k < B) : some k ≠ v.ownBlock := fun e => by
  have := (World.ownsRow.lt h k e.symm).1
  omega
theorem cell_one (w : World) (v : Value) (T : TypeId) : ∀ (j : Nat) (u : Value), [v][j]? = some u → (w.alloc (.cells #[v] T)).cell? ((⟨w.heap.size, 0, none⟩ : Addr).add j) = some u := by
  intro j u hu
  rcases j with _ | j
  · simp at hu
    subst hu
    exact blk_cell (blk_new w _ _) 0 _ rfl
  · simp at hu

set_option maxHeartbeats 6400000 in
set_option maxRecDepth 100000 in
theorem rcuts_any (v : Value) (l : List Int) (w : World) (hl : l.length ≤ 10000) (hv : RI w v l) : Calls Try.prog 20 #[v] w (MakesT (Clu.cutsI Clu.zero l) w) := by
  obtain ⟨i0, hi, hz0, hz1, hz2⟩ := info_parts info_t
  obtain ⟨p, cap, rfl⟩ := ri_form hv
  replace hv := Lib.hid hv
  go_enter Try.func20, Try.ntmps20
  go_wp2_with fail
  go_loopg [3, 5] l.length (fun g vo vi wr => ∃ (k : Nat) (s : Clu.CS), k ≤ l.length ∧ vi = .int .i64 k ∧ g = l.length - k ∧ s = Clu.goI Clu.zero (l.take k) ∧ Blk wr w.heap.size #[.bool s.on, .int .i64 s.kind, .bool s.pict, .bool s.odd] 23 ∧ OwnT (w.heap.size + 1) vo (Clu.cutsI Clu.zero (l.take k)) wr ∧ Below w.heap.size w wr)
  case atStart => exact ⟨0, Clu.zero, Nat.zero_le _, rfl, rfl, rfl, blk_new _ _ _, ownT_nil _ _, below_new _ _⟩
  case round =>
    obtain ⟨k, s, hk, rfl, rfl, hs, hbox, hown, hbel⟩ := hrel
    by_cases hlt : k < l.length
    · have hlt' : (k : Int) < (l.length : Int) := by omega
      obtain ⟨b, off, rfl, hb, hcell⟩ := ri_at hv.out (by omega)
      have hc : wr.cell? ⟨b, off + k, none⟩ = some (.int .i64 l[k]) := (hbel.cell hb).trans (hcell k hlt)
      have hsn : l.take (k + 1) = l.take k ++ [l[k]] := by rw [List.take_succ_eq_append_getElem hlt]
      have hstep := cuts_snoc Clu.zero (l.take k) l[k]
      have hgo := Clu.go_snoc Clu.zero (l.take k) l[k]
      rw [← hsn, ← hs] at hstep hgo
      obtain ⟨x, hx⟩ : ∃ x, l[k] = x := ⟨_, rfl⟩
      rw [hx] at hc hstep hgo
      obtain ⟨o, ho⟩ : ∃ o, Clu.cutsI Clu.zero (l.take k) = o := ⟨_, rfl⟩
      have hol : o.length ≤ l.length := by rw [← ho, Clu.cuts_len, List.length_take]; omega
      rw [ho] at hown hstep
      have hends := fun W => rends11_any s x W
      have hnext := fun W => rnext11_any s x W
      obtain ⟨E, hE⟩ : ∃ E, Clu.endsI s x = E := ⟨_, rfl⟩
      rw [hE] at hstep hends
      obtain ⟨N, hN⟩ : ∃ N, Clu.nextI s x = N := ⟨_, rfl⟩
      rw [hN] at hgo hnext
      unfold csV at hends hnext
      have hkA : w.heap.size < wr.heap.size := blk_lt hbox
      have hkB : b < wr.heap.size := Nat.lt_of_lt_of_le hb hbel.size
      obtain ⟨on, kd, p, od⟩ := s
      dsimp only at hbox hends hnext
      have b0 := blk_cell hbox 0 _ rfl
      have b1 := blk_cell hbox 1 _ rfl
      have b2 := blk_cell hbox 2 _ rfl
      have b3 := blk_cell hbox 3 _ rfl
      replace hends := Lib.hid hends
      replace hnext := Lib.hid hnext
      replace hstep := Lib.hid hstep
      replace hgo := Lib.hid hgo
      replace hown := Lib.hid hown
      replace hbel := Lib.hid hbel
      replace hbox := Lib.hid hbox
      clear hcell hsn hx ho hE hN hs
      have H5 := Lib.hid (show wr.cell? ⟨w.heap.size, 0, none⟩ = some (.bool on) ∧ wr.cell? ⟨w.heap.size, 1, none⟩ = some (.int .i64 kd) ∧ wr.cell? ⟨w.heap.size, 2, none⟩ = some (.bool p) ∧ wr.cell? ⟨w.heap.size, 3, none⟩ = some (.bool od) ∧ wr.cell? ⟨b, off + k, none⟩ = some (.int .i64 x) from ⟨b0, b1, b2, b3, hc⟩)
      clear b0 b1 b2 b3
      go_upto_region 6 with (fail)
      refine wp_region_held_drew (S := fun w' => w'.cell? ⟨w.heap.size, 0, none⟩ = some (.bool on) ∧ w'.cell? ⟨w.heap.size, 1, none⟩ = some (.int .i64 kd) ∧ w'.cell? ⟨w.heap.size, 2, none⟩ = some (.bool p) ∧ w'.cell? ⟨w.heap.size, 3, none⟩ = some (.bool od) ∧ w'.cell? ⟨b, off + k, none⟩ = some (.int .i64 x)) (by kernel_rfl) (H5.out) (fun hS => ?_)
      refine' wpAnyH_take (i := 0) (oi := ⟨_, _, _, _, _, _⟩) (v := _) rfl (by kernel_rfl) (by kernel_rfl) (by kernel_rfl) (fun _ _ _ h => h) (Or.inl ⟨by rfl, ?hy0⟩) hS ?rest0
      case hy0 => (intro wz hSw; (try dsimp only at hSw); go_simp; try with_reducible rfl)
      try simp only [Act.put, List.setIfInBounds_toArray, List.set_cons_zero, List.set_cons_succ]
      refine' wpAnyH_take (i := 1) (oi := ⟨_, _, _, _, _, _⟩) (v := _) rfl (by kernel_rfl) (by kernel_rfl) (by kernel_rfl) (fun _ _ _ h => h) (Or.inl ⟨by rfl, ?hy1⟩) hS ?rest1
      case hy1 => (intro wz hSw; (try dsimp only at hSw); go_simp; try with_reducible rfl)
      try simp only [Act.put, List.setIfInBounds_toArray, List.set_cons_zero, List.set_cons_succ]
      refine' wpAnyH_take (i := 2) (oi := ⟨_, _, _, _, _, _⟩) (v := _) rfl (by kernel_rfl) (by kernel_rfl) (by kernel_rfl) (fun _ _ _ h => h) (Or.inl ⟨by rfl, ?hy2⟩) hS ?rest2
      case hy2 => (intro wz hSw; (try dsimp only at hSw); go_simp; try with_reducible rfl)
      try simp only [Act.put, List.setIfInBounds_toArray, List.set_cons_zero, List.set_cons_succ]
      refine' wpAnyH_take (i := 3) (oi := ⟨_, _, _, _, _, _⟩) (v := _) rfl (by kernel_rfl) (by kernel_rfl) (by kernel_rfl) (fun _ _ _ h => h) (Or.inl ⟨by rfl, ?hy3⟩) hS ?rest3
      case hy3 => (intro wz hSw; (try dsimp only at hSw); go_simp; try with_reducible rfl)
      try simp only [Act.put, List.setIfInBounds_toArray, List.set_cons_zero, List.set_cons_succ]
      refine' wpAnyH_take (i := 4) (oi := ⟨_, _, _, _, _, _⟩) (v := _) rfl (by kernel_rfl) (by kernel_rfl) (by kernel_rfl) (fun _ _ _ h => h) (Or.inl ⟨by rfl, ?hy4⟩) hS ?rest4
      case hy4 => (intro wz hSw; (try dsimp only at hSw); go_simp; try with_reducible rfl)
      try simp only [Act.put, List.setIfInBounds_toArray, List.set_cons_zero, List.set_cons_succ]
      refine' wpAnyH_take (i := 5) (oi := ⟨_, _, _, _, _, _⟩) (v := _) rfl (by kernel_rfl) (by kernel_rfl) (by kernel_rfl) (fun _ _ _ h => h) (Or.inl ⟨by rfl, ?hy5⟩) hS ?rest5
      case hy5 => (intro wz hSw; (try dsimp only at hSw); go_simp; try with_reducible rfl)
      try simp only [Act.put, List.setIfInBounds_toArray, List.set_cons_zero, List.set_cons_succ]
      refine wpAnyH_ready (rs := [6]) (by kernel_rfl) (by simp) (AllReadyH.cons rfl (fun K hK => ?_) AllReadyH.nil)
      go_simp
      go_at_call 14
      refine (hends.out _).mono ?_
      rintro e w2 ⟨rfl, hb2⟩
      go_wp2_with fail
      refine hK.out _ _ (held5 hb2 hS) (fun hSn => ?_)
      clear hS
      have hS := hSn
      clear hSn
      clear hK K
      try simp only [Act.put, List.setIfInBounds_toArray, List.set_cons_zero, List.set_cons_succ]
      have hb2' := Lib.hid (below_on hbel.out ((Below.refl _ _).drew.trans hb2))
      have o2 := Lib.hid (ownT_alloc (ownT_below hown.out ((Below.refl _ _).drew.trans hb2)) (.cells #[.bool E] 4))
      have b2 := Lib.hid (hb2'.out.alloc hb2'.out.size (.cells #[.bool E] 4))
      have s2 := Lib.hid (rt_src (rt_of_own (ownT_lit w.heap.size w2 [E] #[.bool E] w2.heap.size 1 rfl hb2'.out.size rfl rfl (by unfold maxLen; omega))))
      have x2 := Lib.hid (blk_alloc (blk_below hbox.out ((Below.refl _ _).drew.trans hb2)) (.cells #[.bool E] 4))
      have hnot := Lib.hid (ownT_not o2.out (Nat.lt_succ_self w.heap.size))
      have hnob := Lib.hid (ownT_not o2.out (Nat.lt_succ_of_lt hb))
      have hsz : w.heap.size + 1 ≤ (w2.alloc (.cells #[.bool E] 4)).heap.size := by have := hb2'.out.size; simp; omega
      have h8a : o.length + 1 ≤ maxLen := by unfold maxLen; omega
      have h8b : (o.length + 1) * 1 ≤ 140737488355328 := by omega
      replace hsz := Lib.hid hsz
      replace h8a := Lib.hid h8a
      replace h8b := Lib.hid h8b
      clear hends hown hbel hbox H5
      refine wpAnyH_ready (rs := [7]) (by kernel_rfl) (by simp) (AllReadyH.cons rfl (fun K hK => ?_) AllReadyH.nil)
      go_simp
      go_wp2_with fail
      refine hK.out _ _ (held5 (below_new w2 _) hS) (fun hSn => ?_)
      clear hS
      have hS := hSn
      clear hSn
      clear hK K
      try simp only [Act.put, List.setIfInBounds_toArray, List.set_cons_zero, List.set_cons_succ]
      refine wpAnyH_ready (rs := [8]) (by kernel_rfl) (by simp) (AllReadyH.cons rfl (fun K hK => ?_) AllReadyH.nil)
      refine step_append_own rfl _ _ 36 rfl (w.heap.size + 1) 4 i0 (.bool false) 1 1 Try.underlying36 hi hz0 hz1 hz2 rfl (by decide) _ _ _ rfl o2.out ⟨w2.heap.size, 0, none⟩ 1 1 [.bool E] rfl rfl (cell_one w2 (.bool E) 4) (oneCellT [E]) h8a.out h8b.out hsz.out (fun v5 w5 hown5 hgrow5 => ?_)
      have o5 := Lib.hid (ownT_of_row (l := o ++ [E]) hown5 (by simp) (by simp))
      have b5 := Lib.hid (below_row b2.out hgrow5 b2.out.size o2.out (by omega))
      have x5 := Lib.hid (blk_grown x2.out hgrow5 hnot.out)
      have c5 : w5.cell? ⟨b, off + k, none⟩ = some (.int .i64 x) := (World.cell?_of_block (w := w2.alloc (.cells #[.bool E] 4)) (hgrow5.block b (World.block_lt_of_cell? _ _ hS.2.2.2.2) hnob.out)).trans hS.2.2.2.2
      clear hown5 hgrow5 o2 b2 s2 x2
      refine hK.out _ _ ⟨blk_cell x5.out 0 _ rfl, blk_cell x5.out 1 _ rfl, blk_cell x5.out 2 _ rfl, blk_cell x5.out 3 _ rfl, c5⟩ (fun hSn => ?_)
      clear hS hK
      have hS := hSn
      clear hSn
      refine' wpAnyH_take (i := 9) (oi := ⟨_, _, _, _, _, _⟩) (v := _) rfl (by kernel_rfl) (by kernel_rfl) (by kernel_rfl) (fun _ _ _ h => h) (Or.inl ⟨by rfl, ?hy9⟩) hS ?rest9
      case hy9 => (intro wz hSw; (try dsimp only at hSw); go_simp; try with_reducible rfl)
      try simp only [Act.put, List.setIfInBounds_toArray, List.set_cons_zero, List.set_cons_succ]
      refine wpAnyH_done (by kernel_rfl) ?_ _
      have e0 := blk_cell x5.out 0 (.bool on) rfl
      have e1 := blk_cell x5.out 1 (.int .i64 kd) rfl
      have e2 := blk_cell x5.out 2 (.bool p) rfl
      have e3 := blk_cell x5.out 3 (.bool od) rfl
      clear hS hnot hnob hc hb2 hb2' hsz h8a h8b
      go_simp
      go_upto_region 7 with (fail)
      go_region_with (go_at_call 17; refine (hnext.out _).mono ?_; rintro e w6 ⟨rfl, hb6⟩; have x6 := blk_below (blk_drew x5.out) hb6; have f0 := blk_thaw x6 0; have f1 := blk_thaw x6 1; have f2 := blk_thaw x6 2; have f3 := blk_thaw x6 3; have q0 := blk_cell x6 0 (.bool on) rfl; have q1 := blk_cell x6 1 (.int .i64 kd) rfl; have q2 := blk_cell x6 2 (.bool p) rfl; have q3 := blk_cell x6 3 (.bool od) rfl; replace x6 := Lib.hid x6)
      all_goals
        have hb6' := (Below.refl w5.heap.size w5).drew.trans hb6
        have x7 := Lib.hid (blk_set4 x6.out (.bool N.on) (.int .i64 N.kind) (.bool N.pict) (.bool N.odd))
        have o7 := Lib.hid (ownT_set (ownT_set (ownT_set (ownT_set (ownT_below o5.out hb6') ⟨w.heap.size, 0, none⟩ (.bool N.on) (ownT_ne o5.out (Nat.lt_succ_self _))) ⟨w.heap.size, 1, none⟩ (.int .i64 N.kind) (ownT_ne o5.out (Nat.lt_succ_self _))) ⟨w.heap.size, 2, none⟩ (.bool N.pict) (ownT_ne o5.out (Nat.lt_succ_self _))) ⟨w.heap.size, 3, none⟩ (.bool N.odd) (ownT_ne o5.out (Nat.lt_succ_self _)))
        have b7 := Lib.hid (below_set4 (below_on b5.out hb6') (Nat.le_refl _) (.bool N.on) (.int .i64 N.kind) (.bool N.pict) (.bool N.odd))
        clear hb6' hb6 x6 x5 o5 b5 e0 e1 e2 e3 q0 q1 q2 q3 f0 f1 f2 f3 c5
        go_wp2_with fail
        go_roundg (l.length - (k + 1))
        case measure => omega
        case rel => exact ⟨k + 1, N, by omega, by go_num, rfl, hgo.out.symm, x7.out, by rw [hstep.out]; exact o7.out, b7.out⟩
    · obtain rfl : k = l.length := by omega
      have hlt' : decide ((l.length : Int) < (l.length : Int)) = false := by simp
      rw [List.take_length] at hown
      replace hown := Lib.hid hown
      replace hbel := Lib.hid hbel
      clear hs hbox
      go_wp2_with fail
      go_ret
      exact ⟨_, rfl, ownT_mono hown.out (Nat.le_succ _), hbel.out⟩

end Go.Proofs.Ytodckdlanlgkeaa
