/- Layer 6: the code's All. -/
import Derived.Test.YtfmnecknfmgggaaGreatDoorCaA3
import Derived.Test.YtfmnecknfmgggaaGreatDoorMthP
import Derived.Test.YtfmnecknfmgggaaGreatDoorBasP
import Derived.Laws.CopyOwn
import Derived.Laws.MakeOwn
import Derived.Deep.RegionHeld
import Derived.OrdersHeld
namespace Go.Proofs.YtfmnecknfmgggaaGreatDoor
set_option linter.unusedSimpArgs false
set_option linter.unusedVariables false
open Go.RowKit Go.Lib

theorem make_ints (n N : Nat) (hN : N = 3 * n) (hn : n ≤ 1000000) : ∃ X : Array Value, X.size = N ∧ ∀ W : World, (Instr.makeSlice 22 (.int .i64 (3 * (n : Int))) (.int .i64 (3 * (n : Int)))).run Tryz.prog W = .ok (.slice (some ⟨W.heap.size, 0, none⟩) N N) (W.alloc (.cells X 3)) := by
  obtain ⟨i0, hi, hz0, hz1, hz2⟩ := info_parts info_i
  refine ⟨madeCells (Value.int .i64 0).cells (N * i0.size), ?_, fun W => ?_⟩
  · rw [size_madeCells, hz1]; omega
  · have h := run_make (P := Tryz.prog) W 22 3 i0 (.int .i64 0) Tryz.underlying22 hi hz0 .i64 .i64 (3 * (n : Int)) (3 * (n : Int)) (by omega) (Int.le_refl _) (by rw [hz2]; omega) (by omega)
    rw [show (3 * (n : Int)).toNat = N by omega] at h
    exact h

/-- row b begins with these numbers, N places in all -/
def RowAt (w : World) (b N : Nat) (m : List Int) : Prop := ∃ rest : List Value, w.heap[b]? = some (.cells (cellsI m ++ rest).toArray 3 (0, 0)) ∧ (cellsI m ++ rest).length = N

theorem rowAt_below {w w1 : World} {b N : Nat} {m : List Int} (h : RowAt w b N m) (hb : Below w.heap.size w w1) : RowAt w1 b N m := by
  obtain ⟨rest, h1, h2⟩ := h
  exact ⟨rest, by rw [hb.block b (Array.getElem?_eq_some_iff.1 h1).1]; exact h1, h2⟩

theorem rowAt_lt {w : World} {b N : Nat} {m : List Int} (h : RowAt w b N m) : b < w.heap.size := by
  obtain ⟨rest, h1, _⟩ := h
  exact (Array.getElem?_eq_some_iff.1 h1).1

theorem rowAt_own {w : World} {B b N : Nat} {m : List Int} (h : RowAt w b N m) (hB : B ≤ b) (hN : N ≤ maxLen) : OwnI B (.slice (some ⟨b, 0, none⟩) m.length N) m w := by
  obtain ⟨rest, h1, h2⟩ := h
  refine ⟨by simp, .inr ⟨b, N, _, rfl, hB, h1, ?_, hN, by simpa using h2, ?_⟩⟩
  · rw [List.length_append, List.length_map] at h2; omega
  · rw [Nat.mul_one]
    exact List.take_left' (by simp)

/-- the next numbers laid behind -/
theorem splice_next (m f : List Int) (rest : List Value) : splice (cellsI m ++ rest) m.length (cellsI f) = cellsI (m ++ f) ++ rest.drop f.length := by
  unfold splice
  rw [List.take_left' (by simp), List.drop_append, List.drop_eq_nil_of_le (by simp), List.nil_append]
  simp [List.append_assoc]

set_option maxHeartbeats 3200000 in
theorem all_any (v : Value) (l : List Int) (w : World) (hl : l.length ≤ 1000000) (hv : RI w v l) (hwf : ∀ x ∈ l, -9223372036854775808 ≤ x ∧ x ≤ 9223372036854775807) : Calls Tryz.prog 13 #[v] w (Makes (Cas.allI l) w) := by
  obtain ⟨i0, hi, hz0, hz1, hz2⟩ := info_parts info_i
  have hsz : (Tryz.prog.info? 3).map (·.size) = some 1 := by rw [hi]; simp [hz1]
  obtain ⟨p, cap, rfl⟩ := ri_form hv
  obtain ⟨N, hN⟩ : ∃ N, N = 3 * l.length := ⟨_, rfl⟩
  obtain ⟨X, hX, hmk⟩ := make_ints l.length N hN hl
  replace hv := Lib.hid hv
  replace hX := Lib.hid hX
  replace hN := Lib.hid hN
  go_enter Tryz.func13, Tryz.ntmps13
  go_wp2_with fail
  go_loopg [4, 13] l.length (fun g vn vi wr => ∃ k : Nat, k ≤ l.length ∧ vi = .int .i64 k ∧ g = l.length - k ∧ vn = .int .i64 ((Cas.allI (l.take k)).length : Nat) ∧ RowAt wr w.heap.size N (Cas.allI (l.take k)) ∧ Below w.heap.size w wr)
  case atStart => exact ⟨0, Nat.zero_le _, rfl, rfl, rfl, ⟨X.toList, heap_alloc_new w _, by rw [show Cas.allI (l.take 0) = [] from rfl]; simpa using hX.out⟩, below_new w _⟩
  case round =>
    obtain ⟨k, hk, rfl, rfl, rfl, hrow, hbel⟩ := hrel
    by_cases hlt : k < l.length
    · have hlt' : (k : Int) < (l.length : Int) := by omega
      obtain ⟨b, off, rfl, hb, hcell⟩ := ri_at (ri_below hv.out hbel) (by omega)
      have hc := hcell k hlt
      have hxw := hwf l[k] (List.getElem_mem hlt)
      obtain ⟨x, hx⟩ : ∃ x, l[k] = x := ⟨_, rfl⟩
      have hsn : l.take (k + 1) = l.take k ++ [x] := by rw [List.take_succ_eq_append_getElem hlt, hx]
      rw [hx] at hc hxw
      have hlen := (Cas.all_len (l.take k)).2
      have hlx := (Cas.fold_len x).2
      have hall := Cas.all_snoc (l.take k) x
      rw [← hsn] at hall
      obtain ⟨m, hm⟩ : ∃ m, Cas.allI (l.take k) = m := ⟨_, rfl⟩
      obtain ⟨f, hf⟩ : ∃ f, Cas.foldI x = f := ⟨_, rfl⟩
      have hfold := fun W => fold_any x W hxw.1 hxw.2
      rw [hm] at hrow hall hlen
      rw [hm]
      rw [hf] at hall hlx hfold
      have hmk3 : m.length ≤ 3 * k := by rw [List.length_take] at hlen; omega
      have hmN : m.length + 3 ≤ N := by have := hN.out; omega
      have hNb : N ≤ 3000000 := by have := hN.out; omega
      have hmN1 : m.length ≤ N := by omega
      have hmN2 : ¬ N = m.length := by omega
      replace hall := Lib.hid hall
      replace hrow := Lib.hid hrow
      replace hbel := Lib.hid hbel
      replace hfold := Lib.hid hfold
      replace hmk := Lib.hid hmk
      clear hcell hsn hx hm hf hlen hxw
      go_upto_region 6 with (fail)
      refine wp_region_held_drew (S := fun _ => True) (by kernel_rfl) (trivial) (fun hS => ?_)
      refine' wpAnyH_take (i := 0) (oi := ⟨_, _, _, _, _, _⟩) (v := _) rfl (by kernel_rfl) (by kernel_rfl) (by kernel_rfl) (fun _ _ _ h => h) (Or.inl ⟨by rfl, ?hy0⟩) hS ?rest0
      case hy0 => (intro wz hSw; (try dsimp only at hSw); go_simp; try with_reducible rfl)
      try simp only [Act.put, List.setIfInBounds_toArray, List.set_cons_zero, List.set_cons_succ]
      refine' wpAnyH_take (i := 1) (oi := ⟨_, _, _, _, _, _⟩) (v := _) rfl (by kernel_rfl) (by kernel_rfl) (by kernel_rfl) (fun _ _ _ h => h) (Or.inl ⟨by rfl, ?hy1⟩) hS ?rest1
      case hy1 => (intro wz hSw; (try dsimp only at hSw); go_simp; try with_reducible rfl)
      try simp only [Act.put, List.setIfInBounds_toArray, List.set_cons_zero, List.set_cons_succ]
      refine' wpAnyH_take (i := 2) (oi := ⟨_, _, _, _, _, _⟩) (v := _) rfl (by kernel_rfl) (by kernel_rfl) (by kernel_rfl) (fun _ _ _ h => h) (Or.inl ⟨by rfl, ?hy2⟩) hS ?rest2
      case hy2 => (intro wz hSw; (try dsimp only at hSw); go_simp; try with_reducible rfl)
      try simp only [Act.put, List.setIfInBounds_toArray, List.set_cons_zero, List.set_cons_succ]
      refine' wpAnyH_take (i := 3) (oi := ⟨_, _, _, _, _, _⟩) (v := _) rfl (by kernel_rfl) (by kernel_rfl) (by kernel_rfl) (fun _ _ _ h => h) (Or.inl ⟨by rfl, ?hy3⟩) hS ?rest3
      case hy3 => (intro wz hSw; (try dsimp only at hSw); go_simp; try with_reducible rfl)
      try simp only [Act.put, List.setIfInBounds_toArray, List.set_cons_zero, List.set_cons_succ]
      refine' wpAnyH_take (i := 4) (oi := ⟨_, _, _, _, _, _⟩) (v := _) rfl (by kernel_rfl) (by kernel_rfl) (by kernel_rfl) (fun _ _ _ h => h) (Or.inl ⟨by rfl, ?hy4⟩) hS ?rest4
      case hy4 => (intro wz hSw; (try dsimp only at hSw); go_simp; try with_reducible rfl)
      try simp only [Act.put, List.setIfInBounds_toArray, List.set_cons_zero, List.set_cons_succ]
      refine wpAnyH_ready (rs := [5]) (by kernel_rfl) (by simp) (AllReadyH.cons rfl (fun K hK => ?_) AllReadyH.nil)
      go_simp
      go_at_call 19
      refine (hfold.out _).mono ?_
      rintro e w2 ⟨vf, rfl, hvf, hb2⟩
      go_wp2_with fail
      refine hK.out _ _ (trivial) (fun hSn => ?_)
      clear hS
      have hS := hSn
      clear hSn
      clear hK K
      try simp only [Act.put, List.setIfInBounds_toArray, List.set_cons_zero, List.set_cons_succ]
      have hrow2 := rowAt_below hrow.out ((Below.refl _ _).drew.trans hb2)
      have hbel2 := Lib.hid (below_on hbel.out ((Below.refl _ _).drew.trans hb2))
      obtain ⟨rest, hr1, hr2⟩ := hrow2
      have hr3 : m.length + rest.length = N := by simpa using hr2
      have hri := ri_of_own hvf
      obtain ⟨pf, cf, rfl⟩ := ri_form hri
      refine wpAnyH_ready (rs := [6]) (by kernel_rfl) (by simp) (AllReadyH.cons rfl (fun K hK => ?_) AllReadyH.nil)
      refine step_copy_splice rfl _ _ 22 22 rfl 3 Tryz.underlying22 hsz _ _ _ _ _ _ rfl rfl w.heap.size m.length (cellsI m ++ rest) 3 hr1 (cellsI f) ?qn ?qp ?qf (oneCellI f) w.heap.size w hbel2.out (Nat.le_refl _) (fun w5 hg5 hb5 => ?_)
      case qn => rw [List.length_map]; exact (Nat.min_eq_left (by omega)).symm
      case qp =>
        intro h0
        rw [List.length_map] at h0
        refine ⟨rfl, ?_⟩
        obtain ⟨b1, o1, hp1, hb1, hc1⟩ := ri_at hri h0
        refine ⟨_, hp1, fun j u hu => ?_⟩
        have hj : j < f.length := by
          rcases Nat.lt_or_ge j f.length with hj | hj
          · exact hj
          · rw [List.getElem?_eq_none (by simpa using hj)] at hu
            cases hu
        have hadd : (⟨b1, o1, none⟩ : Addr).add j = ⟨b1, o1 + j, none⟩ := by unfold Addr.add; split <;> simp_all
        rw [hadd, hc1 j hj]
        simpa [hj] using hu
      case qf => rw [List.length_append, List.length_map, List.length_map]; omega
      have hrow5 : Hid (RowAt w5 w.heap.size N (m ++ f)) := Lib.hid ⟨rest.drop f.length, by rw [← splice_next]; exact hg5.out, by simp; omega⟩
      replace hb5 := Lib.hid hb5
      rw [List.length_map]
      refine hK.out _ _ trivial (fun hSn => ?_)
      clear hS hK
      have hS := hSn
      clear hSn hg5 hr1 hr2 hr3 hri hvf hb2 hbel2 hrow hbel hfold hc
      refine' wpAnyH_take (i := 7) (oi := ⟨_, _, _, _, _, _⟩) (v := _) rfl (by kernel_rfl) (by kernel_rfl) (by kernel_rfl) (fun _ _ _ h => h) (Or.inl ⟨by rfl, ?hy7⟩) hS ?rest7
      case hy7 => (intro wz hSw; (try dsimp only at hSw); go_simp; try with_reducible rfl)
      try simp only [Act.put, List.setIfInBounds_toArray, List.set_cons_zero, List.set_cons_succ]
      refine' wpAnyH_take (i := 8) (oi := ⟨_, _, _, _, _, _⟩) (v := _) rfl (by kernel_rfl) (by kernel_rfl) (by kernel_rfl) (fun _ _ _ h => h) (Or.inl ⟨by rfl, ?hy8⟩) hS ?rest8
      case hy8 => (intro wz hSw; (try dsimp only at hSw); go_simp; try with_reducible rfl)
      try simp only [Act.put, List.setIfInBounds_toArray, List.set_cons_zero, List.set_cons_succ]
      refine wpAnyH_done (by kernel_rfl) ?_ _
      go_simp
      go_wp2_with fail
      go_roundg (l.length - (k + 1))
      case measure => omega
      case rel => exact ⟨k + 1, by omega, by go_num, rfl, by rw [hall.out, List.length_append, show IntKind.i64.wrap ((m.length : Int) + (f.length : Int)) = ((m.length + f.length : Nat) : Int) by rw [IntKind.wrap_i64]; omega], by rw [hall.out]; exact hrow5.out, hb5.out⟩
    · obtain rfl : k = l.length := by omega
      have hlt' : decide ((l.length : Int) < (l.length : Int)) = false := by simp
      rw [List.take_length] at hrow
      rw [List.take_length]
      obtain ⟨m, hm⟩ : ∃ m, Cas.allI l = m := ⟨_, rfl⟩
      have hlen := (Cas.all_len l).2
      rw [hm] at hrow hlen
      rw [hm]
      have hmN1 : m.length ≤ N := by have := hN.out; omega
      have hNm : N ≤ maxLen := by have := hN.out; unfold maxLen; omega
      replace hrow := Lib.hid hrow
      replace hbel := Lib.hid hbel
      replace hmk := Lib.hid hmk
      replace hm := Lib.hid hm
      clear hlen
      go_wp2_with fail
      go_ret
      exact ⟨_, rfl, ownI_cast (rowAt_own hrow.out (Nat.le_refl _) hNm) hm.out.symm, hbel.out⟩

end Go.Proofs.YtfmnecknfmgggaaGreatDoor
