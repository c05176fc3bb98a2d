/- Layer 13: the code's Clone of bytes and framed. -/
import Derived.Test.YtconccgfhdmafaaFrO
import Derived.Test.YtconccgfhdmafaaC1
import Derived.Test.YtconccgfhdmafaaBasP
import Derived.Lib.AppendStr
import Derived.OwnWalk
import Derived.Deep.LoopGhost
namespace Go.Proofs.Ytconccgfhdmafaa
set_option linter.unusedSimpArgs false
set_option linter.unusedVariables false
open Go.RowKit Go.Lib

set_option maxHeartbeats 1600000 in
set_option maxRecDepth 100000 in
/-- slices.Clone of bytes -/
theorem clone8_any (v : Value) (l : List UInt8) (w : World) (hl : l.length ≤ 1000000) (hv : RBytes w v l) : Calls Try.prog 23 #[v] w fun e w' => ∃ v', e = .returned v' ∧ OwnB w.heap.size v' l w' ∧ Below w.heap.size w w' := by
  obtain ⟨i0, hi, hz0, hz1, hz2⟩ := info_parts info_byte
  have qn : ∀ (w : World) (a : Option Addr) (n c n' c' : Nat), (binOp .eql 23 (.slice a n c) (.slice none n' c')).run Try.prog w = .ok (.bool a.isNone) w := fun w a n c n' c' => Lib.run_eql_slice_nil w _ 5 a n c n' c' (by kernel_rfl)
  have hv0 := hv
  rcases hv with ⟨rfl, rfl⟩ | ⟨a, cap, rfl, hcap, hc⟩
  · go_enter Try.func23, Try.ntmps23
    go_wp2_with fail
    go_ret
    exact ⟨_, rfl, ownB_nil _ _, Below.refl _ _⟩
  · have o1 := Lib.hid (ownB_made w.heap.size w w.heap.size rfl (Nat.le_refl _))
    have b1 := Lib.hid (below_new w (.cells #[] 5))
    have s1 := Lib.hid (bytes_src (bytes_below hv0 b1.out))
    have hl1 := Lib.hid (show l.length ≤ maxLen by unfold maxLen; omega)
    have hl2 := Lib.hid (show l.length * 1 ≤ 140737488355328 by omega)
    clear hc hv0
    go_enter Try.func23, Try.ntmps23
    go_wp2_with (at_builtin; refine wpList_append_src rfl _ _ 23 rfl w.heap.size 5 i0 (.int .u8 0) 1 Try.underlying23 hi hz0 hz1 hz2 rfl _ _ _ rfl o1.out _ _ rfl s1.out (bytes_oneCell l) (by simpa [Lib.byteCells] using hl1.out) (by simpa [Lib.byteCells] using hl2.out) b1.out.size ?_; intro v5 w5 hown5 hgrow5; have o5 := Lib.hid (ownB_of_row (l := l) hown5 (by simp [Lib.byteCells]) (by simp [Lib.byteCells])); have b5 := Lib.hid (below_row b1.out hgrow5 b1.out.size o1.out (Nat.le_refl _)); clear hown5 hgrow5)
    go_ret
    exact ⟨_, rfl, o5.out, b5.out⟩

theorem flat_take {ts : List (List UInt8)} {k : Nat} (hk : k < ts.length) : (ts.take (k + 1)).flatten = (ts.take k).flatten ++ ts[k] := by
  rw [← List.take_append_getElem hk, List.flatten_append]
  simp
theorem flat_len (ts : List (List UInt8)) (k : Nat) : (ts.take k).flatten.length ≤ ts.flatten.length := by
  conv => rhs; rw [← List.take_append_drop k ts, List.flatten_append, List.length_append]
  omega

set_option maxHeartbeats 3200000 in
set_option maxRecDepth 100000 in
/-- the frame of any number of parts -/
theorem framed13_any (v : Value) (ts : List (List UInt8)) (w : World) (hn : ts.length ≤ 1000) (hl : ts.flatten.length ≤ 100000) (hv : SR w v ts) : Calls Try.prog 25 #[v] w fun e w' => ∃ v', e = .returned v' ∧ OwnB w.heap.size v' (Frm.frameOf ts.flatten) w' ∧ Below w.heap.size w w' := by
  obtain ⟨i0, hi, hz0, hz1, hz2⟩ := info_parts info_byte
  obtain ⟨p, cap, rfl⟩ := sr_form hv
  replace hv := Lib.hid hv
  obtain ⟨L, hL⟩ : ∃ L, ts.flatten.length = L := ⟨_, rfl⟩
  have hfl0 := flat_len ts
  rw [hL] at hfl0 hl
  have hput := fun W : World => put_any (L : Int) W
  rw [putI_yes (by omega)] at hput
  have hpl := Var.put_len_le L (by omega)
  have hpp := Var.put_len_pos L
  obtain ⟨F, hF⟩ : ∃ F, Frm.frameOf ts.flatten = F := ⟨_, rfl⟩
  rw [hF]
  unfold Frm.frameOf at hF
  rw [hL] at hF
  obtain ⟨N, hN⟩ : ∃ N, Var.putN L = N := ⟨_, rfl⟩
  rw [hN] at hput hpl hpp hF
  replace hL := Lib.hid hL
  replace hfl0 := Lib.hid hfl0
  replace hF := Lib.hid hF
  replace hN := Lib.hid hN
  replace hput := Lib.hid hput
  have hnz : ((N.length : Int) == 0) = false := beq_eq_false_iff_ne.2 (by omega)
  go_enter Try.func25, Try.ntmps25
  go_wp2_with fail
  go_loopg [3, 11] ts.length (fun g vs vi wr => ∃ k A : Nat, k ≤ ts.length ∧ vi = .int .i64 k ∧ vs = .int .i64 A ∧ A = (ts.take k).flatten.length ∧ g = ts.length - k ∧ w = wr)
  case atStart => exact ⟨0, 0, Nat.zero_le _, rfl, rfl, rfl, rfl, rfl⟩
  case round =>
    obtain ⟨k, A, hk, rfl, rfl, hA, rfl, rfl⟩ := hrel
    by_cases hlt : k < ts.length
    · have hlt' : (k : Int) < (ts.length : Int) := by omega
      obtain ⟨b1, o1, rfl, _, hc1⟩ := sr_at hv.out (by omega)
      have k1 : w.cell? ⟨b1, o1 + k, none⟩ = some (strV ts[k]) := hc1 k hlt
      have hfl := hfl0.out (k + 1)
      have hft := flat_take hlt
      have hln : ((ts.take (k + 1)).flatten).length = A + ts[k].length := by rw [hft, List.length_append, ← hA]
      obtain ⟨T, hT⟩ : ∃ T, ts[k] = T := ⟨_, rfl⟩
      rw [hT] at k1 hln
      have hTs : (⟨T.toArray⟩ : ByteArray).size = T.length := by simp [ByteArray.size]
      obtain ⟨S, hS⟩ : ∃ S : ByteArray, (⟨T.toArray⟩ : ByteArray) = S := ⟨_, rfl⟩
      unfold strV at k1
      rw [hS] at hTs k1
      rw [hln] at hfl
      have hb1 : (A : Int) + (S.size : Int) ≤ 100000 := by rw [hTs]; omega
      have hnew : A + S.size = ((ts.take (k + 1)).flatten).length := by rw [hln, hTs]
      replace hnew := Lib.hid hnew
      clear hft hT hS hA hc1 hTs hln hfl
      go_wp2_with fail
      go_roundg (ts.length - (k + 1))
      case measure => omega
      case rel => exact ⟨k + 1, A + S.size, by omega, by go_num, by go_num, hnew.out, rfl, rfl⟩
    · obtain rfl : k = ts.length := by omega
      have hlt' : decide ((ts.length : Int) < (ts.length : Int)) = false := by simp
      rw [List.take_length, hL.out] at hA
      subst hA
      go_wp2_with fail
      refine (hput.out _).mono ?_
      rintro e w1 ⟨v1, rfl, o1, q1⟩
      replace o1 := Lib.hid o1
      replace q1 := Lib.hid q1
      obtain ⟨p1, c1, rfl⟩ := bytes_form (bytes_of_own o1.out)
      go_wp2_with fail
      go_loopg [6, 27] ts.length (fun g vb vi wr => ∃ k : Nat, k ≤ ts.length ∧ vi = .int .i64 k ∧ OwnB w.heap.size vb (N ++ (ts.take k).flatten) wr ∧ g = ts.length - k ∧ Below w.heap.size w wr)
      case atStart => exact ⟨0, Nat.zero_le _, rfl, by simpa using o1.out, rfl, q1.out⟩
      case round =>
        obtain ⟨k, hk, rfl, hown, rfl, hbel⟩ := hrel
        by_cases hlt : k < ts.length
        · have hlt' : (k : Int) < (ts.length : Int) := by omega
          obtain ⟨b1, o1, rfl, hbb, hc1⟩ := sr_at hv.out (by omega)
          have k1 : wr.cell? ⟨b1, o1 + k, none⟩ = some (strV ts[k]) := by rw [hbel.cell hbb]; exact hc1 k hlt
          have hfl := hfl0.out (k + 1)
          have hft := flat_take hlt
          have hln : ((ts.take (k + 1)).flatten).length = (ts.take k).flatten.length + ts[k].length := by rw [hft, List.length_append]
          obtain ⟨T, hT⟩ : ∃ T, ts[k] = T := ⟨_, rfl⟩
          rw [hT] at k1 hln hft
          have hTs : (⟨T.toArray⟩ : ByteArray).size = T.length := by simp [ByteArray.size]
          have hcells := strV_cells T
          obtain ⟨S, hS⟩ : ∃ S : ByteArray, (⟨T.toArray⟩ : ByteArray) = S := ⟨_, rfl⟩
          unfold strV at k1
          rw [hS] at hTs k1 hcells
          obtain ⟨A, hA⟩ : ∃ A, (ts.take k).flatten = A := ⟨_, rfl⟩
          rw [hA] at hln hft hown
          rw [hln] at hfl
          have hz1' : (N ++ A).length + S.size ≤ maxLen := by rw [hTs, List.length_append]; unfold maxLen; omega
          have hz2' : (N ++ A).length + S.size ≤ 140737488355328 := by rw [hTs, List.length_append]; omega
          replace hz1' := Lib.hid hz1'
          replace hz2' := Lib.hid hz2'
          replace hft := Lib.hid hft
          replace hTs := Lib.hid hTs
          replace hcells := Lib.hid hcells
          replace hown := Lib.hid hown
          replace hbel := Lib.hid hbel
          clear hT hS hA hc1 hfl hln
          go_wp2_with (at_builtin; refine wpList_append_own_string _ rfl _ _ 23 9 rfl w.heap.size 5 i0 Try.underlying23 Try.underlying9 hi hz0 hz1 hz2 _ _ _ rfl hown.out S rfl hz1'.out hz2'.out hbel.out.size ?_; intro v5 w5 hown5 hgrow5 _; have b5 := Lib.hid (below_row hbel.out hgrow5 hbel.out.size hown.out (Nat.le_refl _)); have o5 := Lib.hid (ownB_of_row (l := N ++ (A ++ T)) hown5 (by simp only [List.length_append, hTs.out]; omega) (by rw [hcells.out]; simp [Lib.byteCells])); clear hown5 hgrow5)
          go_roundg (ts.length - (k + 1))
          case measure => omega
          case rel => exact ⟨k + 1, by omega, by go_num, by rw [hft.out]; exact o5.out, rfl, b5.out⟩
        · obtain rfl : k = ts.length := by omega
          have hlt' : decide ((ts.length : Int) < (ts.length : Int)) = false := by simp
          rw [List.take_length] at hown
          rw [hF.out] at hown
          replace hown := Lib.hid hown
          replace hbel := Lib.hid hbel
          go_wp2_with fail
          go_ret
          exact ⟨_, rfl, hown.out, hbel.out⟩

end Go.Proofs.Ytconccgfhdmafaa
