/- Texts that stand together. -/
import Derived.Test.YtiidjkhkcckmkaaGreatDoorBasQ
import Derived.Test.YtiidjkhkcckmkaaGreatDoorBasP
import Derived.OwnWalk
import Derived.Test.YtiidjkhkcckmkaaGreatDoorC1
import Derived.Lib.AppendStr
import Derived.Deep.LoopGhost
import Derived.Test.YtiidjkhkcckmkaaGreatDoorDcP
/- Layer 13: bytes in the middle of bytes, texts as cells, and what All makes of what Take makes. -/
namespace Go.Proofs.YtiidjkhkcckmkaaGreatDoor
set_option linter.unusedSimpArgs false
set_option linter.unusedVariables false
open Go.RowKit Go.Lib
theorem strV_cells (t : List UInt8) : Lib.strCells ⟨t.toArray⟩ = Lib.byteCells t := by simp [Lib.strCells, Lib.byteCells]
namespace Frm
end Frm
end Go.Proofs.YtiidjkhkcckmkaaGreatDoor

/- Layer 13: the code's Clone of bytes and framed. -/
namespace Go.Proofs.YtiidjkhkcckmkaaGreatDoor
set_option linter.unusedSimpArgs false
set_option linter.unusedVariables false
open Go.RowKit Go.Lib
theorem flat_take {ts : List (List UInt8)} {k : Nat} (hk : k < ts.length) : (ts.take (k + 1)).flatten = (ts.take k).flatten ++ ts[k] := by
  rw [← List.take_append_getElem hk, List.flatten_append]
  simp
theorem flat_len (ts : List (List UInt8)) (k : Nat) : (ts.take k).flatten.length ≤ ts.flatten.length := by
  conv => rhs; rw [← List.take_append_drop k ts, List.flatten_append, List.length_append]
  omega
set_option maxHeartbeats 3200000 in
set_option maxRecDepth 100000 in
theorem framed13_any (v : Value) (ts : List (List UInt8)) (w : World) (hn : ts.length ≤ 1000) (hl : ts.flatten.length ≤ 100000) (hv : SR w v ts) : Calls Tryz.prog 87 #[v] w fun e w' => ∃ v', e = .returned v' ∧ OwnB w.heap.size v' (Frm.frameOf ts.flatten) w' ∧ Below w.heap.size w w' := by
  obtain ⟨i0, hi, hz0, hz1, hz2⟩ := info_parts info_byte
  obtain ⟨p, cap, rfl⟩ := sr_form hv
  replace hv := Lib.hid hv
  obtain ⟨L, hL⟩ : ∃ L, ts.flatten.length = L := ⟨_, rfl⟩
  have hfl0 := flat_len ts
  rw [hL] at hfl0 hl
  have hput := fun W : World => put_any (L : Int) W
  rw [putI_yes (by omega)] at hput
  have hpl := Var.put_len_le L (by omega)
  have hpp := Var.put_len_pos L
  obtain ⟨F, hF⟩ : ∃ F, Frm.frameOf ts.flatten = F := ⟨_, rfl⟩
  rw [hF]
  unfold Frm.frameOf at hF
  rw [hL] at hF
  obtain ⟨N, hN⟩ : ∃ N, Var.putN L = N := ⟨_, rfl⟩
  rw [hN] at hput hpl hpp hF
  replace hL := Lib.hid hL
  replace hfl0 := Lib.hid hfl0
  replace hF := Lib.hid hF
  replace hN := Lib.hid hN
  replace hput := Lib.hid hput
  have hnz : ((N.length : Int) == 0) = false := beq_eq_false_iff_ne.2 (by omega)
  go_enter Tryz.func87, Tryz.ntmps87
  go_wp2_with fail
  go_loopg [3, 11] ts.length (fun g vs vi wr => ∃ k A : Nat, k ≤ ts.length ∧ vi = .int .i64 k ∧ vs = .int .i64 A ∧ A = (ts.take k).flatten.length ∧ g = ts.length - k ∧ w = wr)
  case atStart => exact ⟨0, 0, Nat.zero_le _, rfl, rfl, rfl, rfl, rfl⟩
  case round =>
    obtain ⟨k, A, hk, rfl, rfl, hA, rfl, rfl⟩ := hrel
    by_cases hlt : k < ts.length
    · have hlt' : (k : Int) < (ts.length : Int) := by omega
      obtain ⟨b1, o1, rfl, _, hc1⟩ := sr_at hv.out (by omega)
      have k1 : w.cell? ⟨b1, o1 + k, none⟩ = some (strV ts[k]) := hc1 k hlt
      have hfl := hfl0.out (k + 1)
      have hft := flat_take hlt
      have hln : ((ts.take (k + 1)).flatten).length = A + ts[k].length := by rw [hft, List.length_append, ← hA]
      obtain ⟨T, hT⟩ : ∃ T, ts[k] = T := ⟨_, rfl⟩
      rw [hT] at k1 hln
      have hTs : (⟨T.toArray⟩ : ByteArray).size = T.length := by simp [ByteArray.size]
      obtain ⟨S, hS⟩ : ∃ S : ByteArray, (⟨T.toArray⟩ : ByteArray) = S := ⟨_, rfl⟩
      unfold strV at k1
      rw [hS] at hTs k1
      rw [hln] at hfl
      have hb1 : (A : Int) + (S.size : Int) ≤ 100000 := by rw [hTs]; omega
      have hnew : A + S.size = ((ts.take (k + 1)).flatten).length := by rw [hln, hTs]
      replace hnew := Lib.hid hnew
      clear hft hT hS hA hc1 hTs hln hfl
      go_wp2_with fail
      go_roundg (ts.length - (k + 1))
      case measure => omega
      case rel => exact ⟨k + 1, A + S.size, by omega, by go_num, by go_num, hnew.out, rfl, rfl⟩
    · obtain rfl : k = ts.length := by omega
      have hlt' : decide ((ts.length : Int) < (ts.length : Int)) = false := by simp
      rw [List.take_length, hL.out] at hA
      subst hA
      go_wp2_with fail
      refine (hput.out _).mono ?_
      rintro e w1 ⟨v1, rfl, o1, q1⟩
      replace o1 := Lib.hid o1
      replace q1 := Lib.hid q1
      obtain ⟨p1, c1, rfl⟩ := bytes_form (bytes_of_own o1.out)
      go_wp2_with fail
      go_loopg [6, 27] ts.length (fun g vb vi wr => ∃ k : Nat, k ≤ ts.length ∧ vi = .int .i64 k ∧ OwnB w.heap.size vb (N ++ (ts.take k).flatten) wr ∧ g = ts.length - k ∧ Below w.heap.size w wr)
      case atStart => exact ⟨0, Nat.zero_le _, rfl, by simpa using o1.out, rfl, q1.out⟩
      case round =>
        obtain ⟨k, hk, rfl, hown, rfl, hbel⟩ := hrel
        by_cases hlt : k < ts.length
        · have hlt' : (k : Int) < (ts.length : Int) := by omega
          obtain ⟨b1, o1, rfl, hbb, hc1⟩ := sr_at hv.out (by omega)
          have k1 : wr.cell? ⟨b1, o1 + k, none⟩ = some (strV ts[k]) := by rw [hbel.cell hbb]; exact hc1 k hlt
          have hfl := hfl0.out (k + 1)
          have hft := flat_take hlt
          have hln : ((ts.take (k + 1)).flatten).length = (ts.take k).flatten.length + ts[k].length := by rw [hft, List.length_append]
          obtain ⟨T, hT⟩ : ∃ T, ts[k] = T := ⟨_, rfl⟩
          rw [hT] at k1 hln hft
          have hTs : (⟨T.toArray⟩ : ByteArray).size = T.length := by simp [ByteArray.size]
          have hcells := strV_cells T
          obtain ⟨S, hS⟩ : ∃ S : ByteArray, (⟨T.toArray⟩ : ByteArray) = S := ⟨_, rfl⟩
          unfold strV at k1
          rw [hS] at hTs k1 hcells
          obtain ⟨A, hA⟩ : ∃ A, (ts.take k).flatten = A := ⟨_, rfl⟩
          rw [hA] at hln hft hown
          rw [hln] at hfl
          have hz1' : (N ++ A).length + S.size ≤ maxLen := by rw [hTs, List.length_append]; unfold maxLen; omega
          have hz2' : (N ++ A).length + S.size ≤ 140737488355328 := by rw [hTs, List.length_append]; omega
          replace hz1' := Lib.hid hz1'
          replace hz2' := Lib.hid hz2'
          replace hft := Lib.hid hft
          replace hTs := Lib.hid hTs
          replace hcells := Lib.hid hcells
          replace hown := Lib.hid hown
          replace hbel := Lib.hid hbel
          clear hT hS hA hc1 hfl hln
          go_wp2_with (at_builtin; refine wpList_append_own_string _ rfl _ _ 59 9 rfl w.heap.size 5 i0 Tryz.underlying59 Tryz.underlying9 hi hz0 hz1 hz2 _ _ _ rfl hown.out S rfl hz1'.out hz2'.out hbel.out.size ?_; intro v5 w5 hown5 hgrow5 _; have b5 := Lib.hid (below_row hbel.out hgrow5 hbel.out.size hown.out (Nat.le_refl _)); have o5 := Lib.hid (ownB_of_row (l := N ++ (A ++ T)) hown5 (by simp only [List.length_append, hTs.out]; omega) (by rw [hcells.out]; simp [Lib.byteCells])); clear hown5 hgrow5)
          go_roundg (ts.length - (k + 1))
          case measure => omega
          case rel => exact ⟨k + 1, by omega, by go_num, by rw [hft.out]; exact o5.out, rfl, b5.out⟩
        · obtain rfl : k = ts.length := by omega
          have hlt' : decide ((ts.length : Int) < (ts.length : Int)) = false := by simp
          rw [List.take_length] at hown
          rw [hF.out] at hown
          replace hown := Lib.hid hown
          replace hbel := Lib.hid hbel
          go_wp2_with fail
          go_ret
          exact ⟨_, rfl, hown.out, hbel.out⟩
end Go.Proofs.YtiidjkhkcckmkaaGreatDoor

/- Layer 13: the code's Put, Refusal, span, Take. -/
namespace Go.Proofs.YtiidjkhkcckmkaaGreatDoor
set_option linter.unusedSimpArgs false
set_option linter.unusedVariables false
open Go.RowKit Go.Lib
theorem sr_one (w : World) (t : List UInt8) : SR (w.alloc (.cells #[strV t] 9)) (.slice (some ⟨w.heap.size, 0, none⟩) 1 1) [t] := by
  refine .inr ⟨_, 1, rfl, Nat.le_refl _, fun _ => ⟨_, 0, rfl, by simp, fun i hi => ?_⟩⟩
  obtain rfl : i = 0 := by simpa using hi
  exact blk_cell (blk_new w _ _) 0 _ rfl
set_option maxHeartbeats 1600000 in
set_option maxRecDepth 100000 in
theorem put13_any (v : Value) (c : List Int) (w : World) (hl : c.length ≤ 1000) (hv : RI w v c) : Calls Tryz.prog 54 #[v] w (ToldB (Frm.putF c) w) := by
  have htext := Lib.hid (Tx.text_any v c w (by omega) hv)
  obtain ⟨p, cap, rfl⟩ := ri_form hv
  have hlen := Dec.textL_len c
  by_cases h0 : c.length = 0
  · have hp : Frm.putF c = [] := by unfold Frm.putF; rw [if_pos (.inl (List.eq_nil_of_length_eq_zero h0))]
    rw [hp]
    have h1 : ((c.length : Int) == 0) = true := beq_iff_eq.2 (by omega)
    replace h0 := Lib.hid h0
    go_enter Tryz.func54, Tryz.ntmps54
    go_wp2_with fail
    go_ret
    exact ⟨_, rfl, .inl ⟨rfl, rfl⟩, Below.refl _ _⟩
  · have hne : c ≠ [] := fun e => h0 (by rw [e]; rfl)
    obtain ⟨hp, hbig⟩ := Frm.putF_some hne (by omega)
    rw [hp]
    have h1 : ((c.length : Int) == 0) = false := beq_eq_false_iff_ne.2 (by omega)
    obtain ⟨T, hT⟩ : ∃ T, Dec.textL c = T := ⟨_, rfl⟩
    rw [hT] at htext hlen ⊢
    replace htext := Lib.hid htext
    clear hT h0 hp hne hbig hv
    go_enter Tryz.func54, Tryz.ntmps54
    go_wp2_with fail
    refine htext.out.out.mono ?_
    rintro e w1 ⟨rfl, q1⟩
    have hs := Lib.hid (sr_one w1 T)
    have b1 := Lib.hid (q1.alloc q1.size (.cells #[strV T] 9))
    clear q1
    unfold strV at hs b1
    go_wp2_with fail
    refine (framed13_any _ [T] _ (by simp) (by simp; omega) hs.out).mono ?_
    rintro e w2 ⟨v2, rfl, o2, q2⟩
    have e2 : [T].flatten = T := by simp
    rw [e2] at o2
    replace o2 := Lib.hid o2
    replace q2 := Lib.hid q2
    clear e2
    go_wp2_with fail
    go_ret
    exact ⟨_, rfl, bytes_of_own o2.out, b1.out.trans (q2.out.mono b1.out.size)⟩
end Go.Proofs.YtiidjkhkcckmkaaGreatDoor

