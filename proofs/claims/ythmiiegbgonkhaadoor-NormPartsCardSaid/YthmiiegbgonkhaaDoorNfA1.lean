/- Layer 8: slices.Equal of whole numbers; the code's Made. -/
import Derived.Test.YthmiiegbgonkhaaDoorNfW0
import Derived.Test.YthmiiegbgonkhaaDoorCnP
import Derived.Test.YthmiiegbgonkhaaDoorDeP
namespace Go.Proofs.YthmiiegbgonkhaaDoor
set_option linter.unusedSimpArgs false
set_option linter.unusedVariables false
open Go.RowKit Go.Lib


theorem Nfk.made_snoc (l : List Int) (x : Int) : Nfk.madeI (l ++ [x]) = Nfk.madeI l ++ Dcp.fullI x := by rw [Nfk.made_app]; simp [Nfk.madeI]

theorem fullOf8 (r : Int) (f : List Int) (h : Dcp.fullI r = f) (hr : -9223372036854775808 ≤ r ∧ r ≤ 9223372036854775807) (w : World) : Calls Tryd.prog 21 #[.int .i64 r] w (Told f w) := h ▸ fullC r w hr

set_option maxHeartbeats 3200000 in
set_option maxRecDepth 100000 in
theorem madeC : MadeC := by
  intro v l w hl hv hwf
  obtain ⟨i0, hi, hz0, hz1, hz2⟩ := info_parts info_i
  obtain ⟨p, cap, rfl⟩ := ri_form hv
  obtain ⟨X, hX, hmk⟩ := make_empty l.length (by omega)
  replace hv := Lib.hid hv
  replace hX := Lib.hid hX
  replace hwf := Lib.hid hwf
  obtain ⟨M, hM⟩ : ∃ M, Nfk.madeI l = M := ⟨_, rfl⟩
  rw [hM]
  replace hM := Lib.hid hM
  go_enter Tryd.func29, Tryd.ntmps29
  go_wp2_with fail
  go_loopg [3, 5, 11] l.length (fun g vt vx vi wr => ∃ k : Nat, k ≤ l.length ∧ vi = .int .i64 k ∧ g = l.length - k ∧ OwnI w.heap.size vt (Nfk.madeI (l.take k)) wr ∧ Below w.heap.size w wr)
  case atStart => exact ⟨0, Nat.zero_le _, rfl, rfl, own_empty w X l.length hX.out (by unfold maxLen; omega), below_new w _⟩
  case round =>
    obtain ⟨k, hk, rfl, rfl, hown, hbel⟩ := hrel
    by_cases hlt : k < l.length
    · have hlt' : (k : Int) < (l.length : Int) := by omega
      obtain ⟨b, off, rfl, hb, hcell⟩ := ri_at (ri_below hv.out hbel) (by omega)
      have hc := hcell k hlt
      have hxw := hwf.out l[k] (List.getElem_mem hlt)
      obtain ⟨x, hx⟩ : ∃ x, l[k] = x := ⟨_, rfl⟩
      have hsn : l.take (k + 1) = l.take k ++ [x] := by rw [List.take_succ_eq_append_getElem hlt, hx]
      rw [hx] at hc hxw
      have hstep := Nfk.made_snoc (l.take k) x
      rw [← hsn] at hstep
      have hlen := made_lenN (l.take k)
      rw [List.length_take] at hlen
      have hlx := made_lenN [x]
      simp only [Nfk.madeI, List.flatMap_cons, List.flatMap_nil, List.append_nil, List.length_singleton] at hlx
      obtain ⟨m, hm⟩ : ∃ m, Nfk.madeI (l.take k) = m := ⟨_, rfl⟩
      obtain ⟨f, hf⟩ : ∃ f, Dcp.fullI x = f := ⟨_, rfl⟩
      rw [hm] at hown hstep hlen
      rw [hf] at hstep hlx
      have h8a : m.length + f.length ≤ maxLen := by unfold maxLen; omega
      have h8b : (m.length + f.length) * 8 ≤ 140737488355328 := by omega
      have hcall := Lib.hid (fullOf8 x f hf hxw)
      replace h8a := Lib.hid h8a
      replace h8b := Lib.hid h8b
      obtain ⟨pt, ct, rfl⟩ := ri_form (ri_of_own hown)
      replace hstep := Lib.hid hstep
      replace hown := Lib.hid hown
      replace hbel := Lib.hid hbel
      clear hcell hsn hx hm hlen hlx hxw hf hmk
      go_wp2_with fail
      refine (hcall.out _).mono ?_
      rintro e w2 ⟨vf, rfl, hvf, hb2⟩
      have o2 := Lib.hid (ownI_below hown.out hb2)
      have b2 := Lib.hid (below_on hbel.out hb2)
      have s2 := Lib.hid (ri_src hvf)
      clear hcall hown hbel hb2 hvf hc
      go_wp2_with (at_builtin; refine wpList_append_src rfl _ _ 22 rfl w.heap.size 3 i0 (.int .i64 0) 8 Tryd.underlying22 hi hz0 hz1 hz2 rfl _ _ _ rfl o2.out _ _ rfl s2.out (oneCellI f) (by rw [List.length_map]; exact h8a.out) (by rw [List.length_map]; exact h8b.out) b2.out.size ?_; intro v5 w5 hown5 hgrow5; have o5 := Lib.hid (ownI_of_row (l := m ++ f) hown5 (by simp) (by simp)); have b5 := Lib.hid (below_row b2.out hgrow5 b2.out.size o2.out (Nat.le_refl _)); clear hown5 hgrow5)
      go_roundg (l.length - (k + 1))
      case measure => omega
      case rel => exact ⟨k + 1, by omega, by go_num, rfl, by rw [hstep.out]; exact o5.out, b5.out⟩
    · obtain rfl : k = l.length := by omega
      have hlt' : decide ((l.length : Int) < (l.length : Int)) = false := by simp
      rw [List.take_length, hM.out] at hown
      replace hown := Lib.hid hown
      replace hbel := Lib.hid hbel
      clear hmk
      go_wp2_with fail
      go_ret
      exact ⟨_, rfl, ri_of_own hown.out, hbel.out⟩

end Go.Proofs.YthmiiegbgonkhaaDoor
