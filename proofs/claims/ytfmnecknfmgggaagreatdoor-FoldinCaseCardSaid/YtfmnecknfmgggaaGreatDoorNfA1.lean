/- Layer 8: slices.Equal of whole numbers; the code's Made. -/
import Derived.Test.YtfmnecknfmgggaaGreatDoorNfW0
import Derived.Test.YtfmnecknfmgggaaGreatDoorCnP
import Derived.Test.YtfmnecknfmgggaaGreatDoorDeP
namespace Go.Proofs.YtfmnecknfmgggaaGreatDoor
set_option linter.unusedSimpArgs false
set_option linter.unusedVariables false
open Go.RowKit Go.Lib

set_option maxHeartbeats 800000 in
set_option maxRecDepth 100000 in
theorem equal_some (b1 o1 c1 b2 o2 c2 : Nat) (l m : List Int) (w : World) (hl : l.length ≤ 100000) (hlm : l.length = m.length)
    (h1 : ∀ i (h : i < l.length), w.cell? ⟨b1, o1 + i, none⟩ = some (.int .i64 l[i])) (h2 : ∀ i (h : i < m.length), w.cell? ⟨b2, o2 + i, none⟩ = some (.int .i64 m[i])) :
    Calls Tryz.prog 27 #[.slice (some ⟨b1, o1, none⟩) l.length c1, .slice (some ⟨b2, o2, none⟩) m.length c2] w fun e w' => e = .returned (.bool (sameB l m)) ∧ ∃ n, w' = w.drewN n := by
  have e1 := beq_nat_int hlm
  have e3 := bne_nat_int' hlm
  have h1 := Lib.hid h1
  have h2 := Lib.hid h2
  have hlm' := Lib.hid hlm
  clear hlm
  go_enter Tryz.func27, Tryz.ntmps27
  go_wp2_with fail
  go_loopg [5, 13] l.length (fun g vx i wr => ∃ k : Nat, k ≤ l.length ∧ i = .int .i64 k ∧ g = l.length - k ∧ SameRel w l m k wr)
  case atStart => exact ⟨0, Nat.zero_le _, rfl, rfl, rfl, 0, rfl⟩
  case round =>
    obtain ⟨k, hk, rfl, rfl, hr⟩ := hrel
    obtain ⟨hr0, n, rfl⟩ := hr
    have hr0 := Lib.hid hr0
    by_cases hlt : k < l.length
    · have hlt2 : k < m.length := by have := hlm'.out; omega
      obtain ⟨x, hx⟩ : ∃ x, l[k] = x := ⟨_, rfl⟩
      obtain ⟨y, hy⟩ : ∃ y, m[k] = y := ⟨_, rfl⟩
      have hc1 : (w.drewN n).cell? ⟨b1, o1 + k, none⟩ = some (.int .i64 x) := by rw [← hx]; exact h1.out k hlt
      have hc2 : (w.drewN n).cell? ⟨b2, o2 + k, none⟩ = some (.int .i64 y) := by rw [← hy]; exact h2.out k hlt2
      have hx := Lib.hid hx
      have hy := Lib.hid hy
      have hi1 : (k : Int) < (l.length : Int) := by omega
      have hi2 : (k : Int) < (m.length : Int) := by omega
      by_cases hxy : x = y
      · have f1 : (x == y) = true := beq_iff_eq.2 hxy
        have f2 : (x != y) = false := by simp [hxy]
        have hst := Lib.hid (take_eq_succ hlt hlt2 hr0.out (hx.out.trans (hxy.trans hy.out.symm)))
        clear hxy
        go_wp2_with fail
        go_quiet (fail)
        go_wp2_with fail
        go_roundg (l.length - (k + 1))
        case measure => omega
        case rel => exact ⟨k + 1, by omega, by go_num, rfl, hst.out, _, by first | rfl | exact World.drewN_drewN _ _ _⟩
      · have f1 : (x == y) = false := beq_eq_false_iff_ne.2 hxy
        have f2 : (x != y) = true := by simp [hxy]
        have hst : sameB l m = false := by
          unfold sameB
          refine decide_eq_false fun e => hxy ?_
          subst e
          exact hx.out.symm.trans hy.out
        have hst := Lib.hid hst
        clear hxy
        go_wp2_with fail
        go_quiet (fail)
        go_wp2_with fail
        go_ret
        exact ⟨ret_bool hst.out.symm, _, by first | rfl | exact World.drewN_drewN _ _ _⟩
    · have hst : sameB l m = true := by
        unfold sameB
        have h0 := hr0.out
        have hk2 : k = l.length := by omega
        subst hk2
        rw [List.take_length, List.take_of_length_le (by have := hlm'.out; omega)] at h0
        exact decide_eq_true h0
      have hst := Lib.hid hst
      obtain rfl : k = l.length := by omega
      have hlt' : decide ((l.length : Int) < (l.length : Int)) = false := by simp
      go_wp2_with fail
      go_ret
      exact ⟨ret_bool hst.out.symm, n, rfl⟩

set_option maxHeartbeats 800000 in
set_option maxRecDepth 100000 in
/-- lists of two lengths -/
theorem equal_lens (v1 v2 : Option Addr) (n m c1 c2 : Nat) (w : World) (hlm : ¬ n = m) :
    Calls Tryz.prog 27 #[.slice v1 n c1, .slice v2 m c2] w fun e w' => e = .returned (.bool false) ∧ w = w' := by
  have e1 := bne_nat_int hlm
  have e3 : ((n : Int) != (m : Int)) = true := by simp; omega
  clear hlm
  go_enter Tryz.func27, Tryz.ntmps27
  go_wp2_with fail
  go_ret
  exact ⟨rfl, rfl⟩

set_option maxHeartbeats 800000 in
set_option maxRecDepth 100000 in
/-- two empty lists -/
theorem equal_empty (v1 v2 : Option Addr) (c1 c2 : Nat) (w : World) :
    Calls Tryz.prog 27 #[.slice v1 0 c1, .slice v2 0 c2] w fun e w' => e = .returned (.bool true) ∧ w = w' := by
  go_enter Tryz.func27, Tryz.ntmps27
  go_wp2_with fail
  refine wp_loop_rounds 1 ?_
  rw [rounds_succ]
  go_wp2_with fail
  go_ret
  exact ⟨rfl, rfl⟩

/-- slices.Equal, of whatever lists -/
theorem equal_any (v1 v2 : Value) (l m : List Int) (w : World) (hl : l.length ≤ 100000) (h1 : RI w v1 l) (h2 : RI w v2 m) :
    Calls Tryz.prog 27 #[v1, v2] w fun e w' => e = .returned (.bool (sameB l m)) ∧ ∃ n, w' = w.drewN n := by
  obtain ⟨p1, c1, rfl⟩ := ri_form h1
  obtain ⟨p2, c2, rfl⟩ := ri_form h2
  by_cases hlm : l.length = m.length
  · cases l with
    | nil =>
      cases m with
      | nil => exact (equal_empty p1 p2 c1 c2 w).mono fun e w' ⟨p, q⟩ => ⟨p, 0, q.symm⟩
      | cons y m => simp at hlm
    | cons x l =>
      obtain ⟨b1, o1, rfl, _, g1⟩ := ri_at h1 (by simp)
      obtain ⟨b2, o2, rfl, _, g2⟩ := ri_at h2 (by rw [← hlm]; simp)
      exact equal_some b1 o1 c1 b2 o2 c2 (x :: l) m w hl hlm g1 g2
  · have : sameB l m = false := decide_eq_false fun e => hlm (by rw [e])
    rw [this]
    exact (equal_lens p1 p2 _ _ c1 c2 w hlm).mono fun e w' ⟨p, q⟩ => ⟨p, 0, q.symm⟩

theorem Nfk.made_snoc (l : List Int) (x : Int) : Nfk.madeI (l ++ [x]) = Nfk.madeI l ++ Dcp.fullI x := by rw [Nfk.made_app]; simp [Nfk.madeI]

theorem fullOf8 (r : Int) (f : List Int) (h : Dcp.fullI r = f) (hr : -9223372036854775808 ≤ r ∧ r ≤ 9223372036854775807) (w : World) : Calls Tryz.prog 53 #[.int .i64 r] w (Told f w) := h ▸ fullC r w hr

set_option maxHeartbeats 3200000 in
set_option maxRecDepth 100000 in
theorem madeC : MadeC := by
  intro v l w hl hv hwf
  obtain ⟨i0, hi, hz0, hz1, hz2⟩ := info_parts info_i
  obtain ⟨p, cap, rfl⟩ := ri_form hv
  obtain ⟨X, hX, hmk⟩ := make_empty l.length (by omega)
  replace hv := Lib.hid hv
  replace hX := Lib.hid hX
  replace hwf := Lib.hid hwf
  obtain ⟨M, hM⟩ : ∃ M, Nfk.madeI l = M := ⟨_, rfl⟩
  rw [hM]
  replace hM := Lib.hid hM
  go_enter Tryz.func73, Tryz.ntmps73
  go_wp2_with fail
  go_loopg [3, 5, 11] l.length (fun g vt vx vi wr => ∃ k : Nat, k ≤ l.length ∧ vi = .int .i64 k ∧ g = l.length - k ∧ OwnI w.heap.size vt (Nfk.madeI (l.take k)) wr ∧ Below w.heap.size w wr)
  case atStart => exact ⟨0, Nat.zero_le _, rfl, rfl, own_empty w X l.length hX.out (by unfold maxLen; omega), below_new w _⟩
  case round =>
    obtain ⟨k, hk, rfl, rfl, hown, hbel⟩ := hrel
    by_cases hlt : k < l.length
    · have hlt' : (k : Int) < (l.length : Int) := by omega
      obtain ⟨b, off, rfl, hb, hcell⟩ := ri_at (ri_below hv.out hbel) (by omega)
      have hc := hcell k hlt
      have hxw := hwf.out l[k] (List.getElem_mem hlt)
      obtain ⟨x, hx⟩ : ∃ x, l[k] = x := ⟨_, rfl⟩
      have hsn : l.take (k + 1) = l.take k ++ [x] := by rw [List.take_succ_eq_append_getElem hlt, hx]
      rw [hx] at hc hxw
      have hstep := Nfk.made_snoc (l.take k) x
      rw [← hsn] at hstep
      have hlen := made_lenN (l.take k)
      rw [List.length_take] at hlen
      have hlx := made_lenN [x]
      simp only [Nfk.madeI, List.flatMap_cons, List.flatMap_nil, List.append_nil, List.length_singleton] at hlx
      obtain ⟨m, hm⟩ : ∃ m, Nfk.madeI (l.take k) = m := ⟨_, rfl⟩
      obtain ⟨f, hf⟩ : ∃ f, Dcp.fullI x = f := ⟨_, rfl⟩
      rw [hm] at hown hstep hlen
      rw [hf] at hstep hlx
      have h8a : m.length + f.length ≤ maxLen := by unfold maxLen; omega
      have h8b : (m.length + f.length) * 8 ≤ 140737488355328 := by omega
      have hcall := Lib.hid (fullOf8 x f hf hxw)
      replace h8a := Lib.hid h8a
      replace h8b := Lib.hid h8b
      obtain ⟨pt, ct, rfl⟩ := ri_form (ri_of_own hown)
      replace hstep := Lib.hid hstep
      replace hown := Lib.hid hown
      replace hbel := Lib.hid hbel
      clear hcell hsn hx hm hlen hlx hxw hf hmk
      go_wp2_with fail
      refine (hcall.out _).mono ?_
      rintro e w2 ⟨vf, rfl, hvf, hb2⟩
      have o2 := Lib.hid (ownI_below hown.out hb2)
      have b2 := Lib.hid (below_on hbel.out hb2)
      have s2 := Lib.hid (ri_src hvf)
      clear hcall hown hbel hb2 hvf hc
      go_wp2_with (at_builtin; refine wpList_append_src rfl _ _ 22 rfl w.heap.size 3 i0 (.int .i64 0) 8 Tryz.underlying22 hi hz0 hz1 hz2 rfl _ _ _ rfl o2.out _ _ rfl s2.out (oneCellI f) (by rw [List.length_map]; exact h8a.out) (by rw [List.length_map]; exact h8b.out) b2.out.size ?_; intro v5 w5 hown5 hgrow5; have o5 := Lib.hid (ownI_of_row (l := m ++ f) hown5 (by simp) (by simp)); have b5 := Lib.hid (below_row b2.out hgrow5 b2.out.size o2.out (Nat.le_refl _)); clear hown5 hgrow5)
      go_roundg (l.length - (k + 1))
      case measure => omega
      case rel => exact ⟨k + 1, by omega, by go_num, rfl, by rw [hstep.out]; exact o5.out, b5.out⟩
    · obtain rfl : k = l.length := by omega
      have hlt' : decide ((l.length : Int) < (l.length : Int)) = false := by simp
      rw [List.take_length, hM.out] at hown
      replace hown := Lib.hid hown
      replace hbel := Lib.hid hbel
      clear hmk
      go_wp2_with fail
      go_ret
      exact ⟨_, rfl, ri_of_own hown.out, hbel.out⟩

end Go.Proofs.YtfmnecknfmgggaaGreatDoor
