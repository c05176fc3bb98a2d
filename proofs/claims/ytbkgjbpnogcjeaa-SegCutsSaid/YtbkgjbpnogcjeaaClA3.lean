/- Layer 11: the code's Cuts. -/
import Derived.Test.YtbkgjbpnogcjeaaClA2
import Derived.Laws.MakeOwn
namespace Go.Proofs.Ytbkgjbpnogcjeaa
set_option linter.unusedSimpArgs false
set_option linter.unusedVariables false
open Go.RowKit Go.Lib

theorem make_bools (n : Nat) (hn : n ≤ 1000000) : ∃ X : Array Value, X.size = n ∧ ∀ W : World, (Instr.makeSlice 47 (.int .i64 (n : Int)) (.int .i64 (n : Int))).run Try.prog W = .ok (.slice (some ⟨W.heap.size, 0, none⟩) n n) (W.alloc (.cells X 4)) := by
  obtain ⟨i0, hi, h⟩ := Option.map_eq_some_iff.1 info_t
  simp only [Prod.mk.injEq] at h
  refine ⟨madeCells (Value.bool false).cells (n * i0.size), by rw [size_madeCells, h.2.1]; omega, fun W => ?_⟩
  have hr := run_make (P := Try.prog) W 47 4 i0 (.bool false) Try.underlying47 hi h.1 .i64 .i64 (n : Int) (n : Int) (by omega) (Int.le_refl _) (by rw [h.2.2]; omega) (by omega)
  rw [Int.toNat_natCast] at hr
  exact hr

/-- the truth values of a block that is being filled -/
def FillT (w : World) (b : Nat) (n k : Nat) (l : List Bool) : Prop := ∃ cs : Array Value, Blk w b cs 4 ∧ cs.size = n ∧ ∀ j (h : j < l.length), j < k → cs[j]? = some (.bool l[j])

theorem fillT_below {w w' : World} {b n k : Nat} {l : List Bool} (h : FillT w b n k l) (hb : Below w.heap.size w w') : FillT w' b n k l := by
  obtain ⟨cs, h1, h2, h3⟩ := h
  exact ⟨cs, blk_below h1 hb, h2, h3⟩
theorem fillT_lt {w : World} {b n k : Nat} {l : List Bool} (h : FillT w b n k l) : b < w.heap.size := by
  obtain ⟨cs, h1, _⟩ := h
  exact blk_lt h1
theorem fillT_at {w : World} {b n k : Nat} {l : List Bool} (h : FillT w b n k l) (hk : k < n) : (∃ u, w.cell? ⟨b, k, none⟩ = some u) ∧ w.frozen? ⟨b, k, none⟩ = false := by
  obtain ⟨cs, h1, h2, _⟩ := h
  exact ⟨⟨cs[k]'(by omega), blk_cell h1 k _ (Array.getElem?_eq_getElem (by omega))⟩, blk_thaw h1 k⟩
theorem fillT_more {w : World} {b n k : Nat} {l : List Bool} (h : FillT w b n k l) (hn : n = l.length) (hk : k < l.length) : FillT (w.setCell ⟨b, k, none⟩ (.bool l[k])) b n (k + 1) l := by
  obtain ⟨cs, h1, h2, h3⟩ := h
  refine ⟨_, blk_setAt h1 k _, by simpa using h2, fun j hj hjk => ?_⟩
  rw [Array.getElem?_setIfInBounds]
  by_cases e : k = j
  · subst e
    rw [if_pos rfl, if_pos (by omega)]
  · rw [if_neg e]
    exact h3 j hj (by omega)
theorem fillT_other {w : World} {b n k : Nat} {l : List Bool} (h : FillT w b n k l) (a : Addr) (u : Value) (hne : a.block ≠ b) : FillT (w.setCell a u) b n k l := by
  obtain ⟨cs, h1, h2, h3⟩ := h
  refine ⟨cs, ?_, h2, h3⟩
  unfold Blk at *
  rw [heap_setCell_other w a b u (fun e => hne e.symm)]
  exact h1
theorem fillT_rt {w : World} {b n : Nat} {l : List Bool} (h : FillT w b n n l) (hn : n = l.length) : RT w (.slice (some ⟨b, 0, none⟩) n n) l := by
  subst hn
  have hb := fillT_lt h
  obtain ⟨cs, h1, h2, h3⟩ := h
  refine .inr ⟨_, _, rfl, Nat.le_refl _, fun _ => ⟨b, 0, rfl, hb, fun i hi => ?_⟩⟩
  rw [Nat.zero_add]
  exact blk_cell h1 i _ (h3 i hi hi)

set_option maxHeartbeats 6400000 in
set_option maxRecDepth 100000 in
theorem ccuts_any (v : Value) (l : List Int) (w : World) (hl : l.length ≤ 100000) (hv : RI w v l) : Calls Try.prog 22 #[v] w (ToldT (Clu.cutsI Clu.zero l) w) := by
  obtain ⟨p, cap, rfl⟩ := ri_form hv
  obtain ⟨X, hX, hmk⟩ := make_bools l.length (by omega)
  obtain ⟨m, hm⟩ : ∃ m, Clu.cutsI Clu.zero l = m := ⟨_, rfl⟩
  have hml : l.length = m.length := by rw [← hm, Clu.cuts_len]
  have hma : ∀ i (h : i < l.length) (h2 : i < m.length), Clu.endsI (Clu.goI Clu.zero (l.take i)) l[i] = m[i] := fun i h h2 => by
    subst hm
    exact (Clu.cuts_at _ _ i h).symm
  rw [hm]
  replace hv := Lib.hid hv
  replace hX := Lib.hid hX
  replace hma := Lib.hid hma
  replace hml := Lib.hid hml
  clear hm
  have hbel0 := Lib.hid (show Below w.heap.size w ((w.alloc (.cells X 4)).alloc (.cells #[.bool false, .int .i64 0, .bool false, .bool false] 28)) from (below_new w _).alloc (by simp) _)
  have hfill0 := Lib.hid (show FillT ((w.alloc (.cells X 4)).alloc (.cells #[.bool false, .int .i64 0, .bool false, .bool false] 28)) w.heap.size l.length 0 m from ⟨X, blk_alloc (blk_new w _ _) _, hX.out, fun j h1 h2 => by omega⟩)
  have hbox0 := Lib.hid (show Blk ((w.alloc (.cells X 4)).alloc (.cells #[.bool false, .int .i64 0, .bool false, .bool false] 28)) (w.heap.size + 1) #[.bool false, .int .i64 0, .bool false, .bool false] 28 from by have := blk_new (w.alloc (.cells X 4)) #[.bool false, .int .i64 0, .bool false, .bool false] 28; simpa using this)
  go_enter Try.func22, Try.ntmps22
  go_wp2_with fail
  go_loopg [5, 6, 12] l.length (fun g v5 v6 vi wr => ∃ (k : Nat) (s : Clu.CS), k ≤ l.length ∧ vi = .int .i64 k ∧ g = l.length - k ∧ s = Clu.goI Clu.zero (l.take k) ∧ Blk wr (w.heap.size + 1) #[.bool s.on, .int .i64 s.kind, .bool s.pict, .bool s.odd] 28 ∧ FillT wr w.heap.size l.length k m ∧ Below w.heap.size w wr)
  case atStart => exact ⟨0, Clu.zero, Nat.zero_le _, rfl, rfl, rfl, hbox0.out, hfill0.out, hbel0.out⟩
  case round =>
    obtain ⟨k, s, hk, rfl, rfl, hs, hbox, hfill, hbel⟩ := hrel
    clear hbox0 hfill0 hbel0 hmk
    by_cases hlt : k < l.length
    · have hlt' : (k : Int) < (l.length : Int) := by omega
      obtain ⟨b, off, rfl, hb, hcell⟩ := ri_at hv.out (by omega)
      have hc : wr.cell? ⟨b, off + k, none⟩ = some (.int .i64 l[k]) := (hbel.cell hb).trans (hcell k hlt)
      have hsn : l.take (k + 1) = l.take k ++ [l[k]] := by rw [List.take_succ_eq_append_getElem hlt]
      have hgo := Clu.go_snoc Clu.zero (l.take k) l[k]
      have hkm : k < m.length := by have := hml.out; omega
      have hend := hma.out k hlt hkm
      rw [← hsn, ← hs] at hgo
      rw [← hs] at hend
      obtain ⟨x, hx⟩ : ∃ x, l[k] = x := ⟨_, rfl⟩
      rw [hx] at hc hgo hend
      have hends := fun W => cends_any s x W
      have hnext := fun W => cnext_any s x W
      rw [hend] at hends
      obtain ⟨N, hN⟩ : ∃ N, Clu.nextI s x = N := ⟨_, rfl⟩
      rw [hN] at hgo hnext
      obtain ⟨E, hE⟩ : ∃ E, m[k] = E := ⟨_, rfl⟩
      rw [hE] at hends
      unfold csV at hends hnext
      obtain ⟨on, kd, p, od⟩ := s
      dsimp only at hbox hends hnext
      have b0 := blk_cell hbox 0 _ rfl
      have b1 := blk_cell hbox 1 _ rfl
      have b2 := blk_cell hbox 2 _ rfl
      have b3 := blk_cell hbox 3 _ rfl
      replace hends := Lib.hid hends
      replace hnext := Lib.hid hnext
      replace hgo := Lib.hid hgo
      replace hbel := Lib.hid hbel
      replace hbox := Lib.hid hbox
      replace hfill := Lib.hid hfill
      clear hcell hsn hx hN hs hend
      replace hkm := Lib.hid hkm
      replace hE := Lib.hid hE
      go_wp2_with fail
      refine (hends.out _).mono ?_
      rintro e w2 ⟨rfl, hb2⟩
      have B2 := Lib.hid (below_on hbel.out hb2)
      have x2 := blk_below hbox.out hb2
      have F2 := fillT_below hfill.out hb2
      obtain ⟨⟨u, hu⟩, hz⟩ := fillT_at F2 hlt
      have hmore := fillT_more F2 hml.out hkm.out
      rw [hE.out] at hmore
      have x3 := blk_otherAt x2 (j := w.heap.size) k (.bool E) (by omega)
      have B3 := Lib.hid (B2.out.setCell (p := ⟨w.heap.size, k, none⟩) (Nat.le_refl _) (.bool E))
      clear b0 b1 b2 b3 hc
      have d0 := blk_cell x3 0 (.bool on) rfl
      have d1 := blk_cell x3 1 (.int .i64 kd) rfl
      have d2 := blk_cell x3 2 (.bool p) rfl
      have d3 := blk_cell x3 3 (.bool od) rfl
      replace hmore := Lib.hid hmore
      replace x3 := Lib.hid x3
      clear hbox hfill hbel hb2 B2 F2 x2
      go_wp2_with fail
      refine (hnext.out _).mono ?_
      rintro e w4 ⟨rfl, hb4⟩
      have x4 := blk_below x3.out hb4
      have f0 := blk_thaw x4 0
      have f1 := blk_thaw x4 1
      have f2 := blk_thaw x4 2
      have f3 := blk_thaw x4 3
      have c0 := blk_cell x4 0 (.bool on) rfl
      have c1 := blk_cell x4 1 (.int .i64 kd) rfl
      have c2 := blk_cell x4 2 (.bool p) rfl
      have c3 := blk_cell x4 3 (.bool od) rfl
      have x5 := Lib.hid (blk_set4 x4 (.bool N.on) (.int .i64 N.kind) (.bool N.pict) (.bool N.odd))
      have B5 := Lib.hid (below_set4 (below_on B3.out hb4) (Nat.le_succ _) (.bool N.on) (.int .i64 N.kind) (.bool N.pict) (.bool N.odd))
      have F5 := Lib.hid (fillT_other (fillT_other (fillT_other (fillT_other (fillT_below hmore.out hb4) ⟨w.heap.size + 1, 0, none⟩ (.bool N.on) (Nat.succ_ne_self _)) ⟨w.heap.size + 1, 1, none⟩ (.int .i64 N.kind) (Nat.succ_ne_self _)) ⟨w.heap.size + 1, 2, none⟩ (.bool N.pict) (Nat.succ_ne_self _)) ⟨w.heap.size + 1, 3, none⟩ (.bool N.odd) (Nat.succ_ne_self _))
      clear d0 d1 d2 d3 hu hz
      replace hb4 := Lib.hid hb4
      replace x4 := Lib.hid x4
      go_wp2_with fail
      go_roundg (l.length - (k + 1))
      case measure => omega
      case rel => exact ⟨k + 1, N, by omega, by go_num, rfl, hgo.out.symm, x5.out, F5.out, B5.out⟩
    · obtain rfl : k = l.length := by omega
      have hlt' : decide ((l.length : Int) < (l.length : Int)) = false := by simp
      have hrt := Lib.hid (fillT_rt hfill hml.out)
      replace hbel := Lib.hid hbel
      clear hs hbox hfill
      go_wp2_with fail
      go_ret
      exact ⟨_, rfl, hrt.out, hbel.out⟩

end Go.Proofs.Ytbkgjbpnogcjeaa
