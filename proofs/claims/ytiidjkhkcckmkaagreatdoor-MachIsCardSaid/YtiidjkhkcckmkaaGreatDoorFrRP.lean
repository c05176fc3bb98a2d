/- Texts that stand together. -/
import Derived.Test.YtiidjkhkcckmkaaGreatDoorC1
import Derived.OwnWalk
import Derived.Test.YtiidjkhkcckmkaaGreatDoorFrP
import Derived.Test.YtiidjkhkcckmkaaGreatDoorDcRP
import Derived.Test.YtiidjkhkcckmkaaGreatDoorBasP
/- The contracts of layer 2's functions of the document. -/
namespace Go.Proofs.YtiidjkhkcckmkaaGreatDoor
set_option linter.unusedSimpArgs false
set_option linter.unusedVariables false
open Go.RowKit Go.Lib
set_option maxHeartbeats 800000 in
set_option maxRecDepth 100000 in
theorem rput_yes (n : Nat) (hn : n ≤ 268435455) (w : World) :
    Calls Tryz.prog 114 #[.int .i64 (n : Int)] w fun e w' => ∃ v, e = .returned v ∧ OwnB w.heap.size v (Var.putN n) w' ∧ Below w.heap.size w w' := by
  have h1 : (n : Int) ≤ 268435455 := by omega
  obtain ⟨i0, hi, hi0, hi1, hi2⟩ := info_parts info_byte
  go_enter Tryz.func114, Tryz.ntmps114
  go_wp2_with fail
  go_loopg [0, 3] n (fun m i v wr => m ≤ n ∧ i = .int .i64 m ∧ PutRel w n m v wr)
  case atStart => exact ⟨Nat.le_refl _, rfl, [], ownB_nil _ _, Below.refl _ _, rfl⟩
  case round =>
    obtain ⟨hm, rfl, l, hown, hbel, hput⟩ := hrel
    have hll := put_rel_len hn hput
    replace hput := Lib.hid hput
    replace hown := Lib.hid hown
    have hm1 := Lib.hid (show l.length + 1 ≤ maxLen by simp [maxLen]; omega)
    have hm2 := Lib.hid (show (l.length + 1) * 1 ≤ 140737488355328 by omega)
    by_cases hlt : 128 ≤ gk
    · have hlt' : (128 : Int) ≤ (gk : Int) := by omega
      have hc : 128 + (gk : Int) % 128 = ((UInt8.ofNat (gk % 128 + 128)).toNat : Int) := by rw [← u8_of (by omega)]; omega
      obtain ⟨c, hcc⟩ : ∃ c, UInt8.ofNat (gk % 128 + 128) = c := ⟨_, rfl⟩
      rw [hcc] at hc
      have hcb : 0 ≤ 128 + (gk : Int) % 128 ∧ 128 + (gk : Int) % 128 < 256 := by omega
      have hm3 := Lib.hid (show w.heap.size ≤ (wr.alloc (Obj.cells #[Value.int IntKind.u8 (128 + (gk : Int) % 128)] 5)).heap.size by have := hbel.size; simp; omega)
      replace hcc := Lib.hid hcc
      replace hc := Lib.hid hc
      go_wp2_with (at_builtin; refine wpList_append_src rfl _ _ 59 rfl w.heap.size 5 i0 (.int .u8 0) 1 Tryz.underlying59 hi hi0 hi1 hi2 rfl _ _ _ rfl (ownB_alloc hown.out _) _ [.int .u8 (128 + (gk : Int) % 128)] rfl (.inr ⟨⟨wr.heap.size, 0, none⟩, 1, rfl, cell_one_new _ _ _⟩) (by simp [Value.oneCell']) hm1.out hm2.out hm3.out ?_; intro v5 w5 hown5 hgrow5)
      go_roundg (gk / 128)
      case measure => omega
      case rel =>
        rw [hc.out] at hown5 hgrow5 hm3
        refine ⟨by omega, by go_num, l ++ [c], ownB_of_row hown5 (by simp) (by simp [Lib.byteCells]), below_row (hbel.alloc hbel.size _) hgrow5 hm3.out (ownB_alloc hown.out _) (Nat.le_refl _), ?_⟩
        rw [List.append_assoc, ← hput.out, Var.putN_big hlt, hcc.out]
        rfl
    · have hlt' : decide ((128 : Int) ≤ (gk : Int)) = false := by simp; omega
      have hc : (gk : Int) = ((UInt8.ofNat gk).toNat : Int) := u8_of (by omega)
      obtain ⟨c, hcc⟩ : ∃ c, UInt8.ofNat gk = c := ⟨_, rfl⟩
      rw [hcc] at hc
      have hcb : (gk : Int) < 256 := by omega
      have hm3 := Lib.hid (show w.heap.size ≤ (wr.alloc (Obj.cells #[Value.int IntKind.u8 (gk : Int)] 5)).heap.size by have := hbel.size; simp; omega)
      replace hcc := Lib.hid hcc
      replace hc := Lib.hid hc
      go_wp2_with (at_builtin; refine wpList_append_src rfl _ _ 59 rfl w.heap.size 5 i0 (.int .u8 0) 1 Tryz.underlying59 hi hi0 hi1 hi2 rfl _ _ _ rfl (ownB_alloc hown.out _) _ [.int .u8 (gk : Int)] rfl (.inr ⟨⟨wr.heap.size, 0, none⟩, 1, rfl, cell_one_new _ _ _⟩) (by simp [Value.oneCell']) hm1.out hm2.out hm3.out ?_; intro v5 w5 hown5 hgrow5)
      go_ret
      rw [hc.out] at hown5 hgrow5 hm3
      refine ⟨_, rfl, ?_, below_row (hbel.alloc hbel.size _) hgrow5 hm3.out (ownB_alloc hown.out _) (Nat.le_refl _)⟩
      rw [← hput.out, Var.putN_small (by omega), hcc.out]
      exact ownB_of_row hown5 (by simp) (by simp [Lib.byteCells])
end Go.Proofs.YtiidjkhkcckmkaaGreatDoor

/- Layer 13: the document's Put, Refusal, Take. -/
namespace Go.Proofs.YtiidjkhkcckmkaaGreatDoor
set_option linter.unusedSimpArgs false
set_option linter.unusedVariables false
open Go.RowKit Go.Lib
set_option maxHeartbeats 3200000 in
set_option maxRecDepth 100000 in
theorem rput13_any (v : Value) (c : List Int) (w : World) (hl : c.length ≤ 1000) (hv : RI w v c) : Calls Tryz.prog 72 #[v] w (ToldB (Frm.putF c) w) := by
  obtain ⟨i0, hi, hz0, hz1, hz2⟩ := info_parts info_byte
  have htext := Lib.hid (Tx.rtext_any v c w hl hv)
  obtain ⟨p, cap, rfl⟩ := ri_form hv
  have hlen := Dec.textL_len c
  by_cases h0 : c.length = 0
  · have hp : Frm.putF c = [] := by unfold Frm.putF; rw [if_pos (.inl (List.eq_nil_of_length_eq_zero h0))]
    rw [hp]
    have h1 : ((c.length : Int) == 0) = true := beq_iff_eq.2 (by omega)
    replace h0 := Lib.hid h0
    go_enter Tryz.func72, Tryz.ntmps72
    go_wp2_with fail
    refine htext.out.mono ?_
    rintro e w1 ⟨rfl, q1⟩
    replace q1 := Lib.hid q1
    go_wp2_with fail
    go_ret
    exact ⟨_, rfl, .inl ⟨rfl, rfl⟩, q1.out⟩
  · have hne : c ≠ [] := fun e => h0 (by rw [e]; rfl)
    obtain ⟨hp, hbig⟩ := Frm.putF_some hne (by omega)
    rw [hp]
    unfold Frm.frameOf
    unfold Frm.big at hbig
    have h1 : ((c.length : Int) == 0) = false := beq_eq_false_iff_ne.2 (by omega)
    obtain ⟨T, hT⟩ : ∃ T, Dec.textL c = T := ⟨_, rfl⟩
    rw [hT] at htext hlen hbig ⊢
    have hTs : (⟨T.toArray⟩ : ByteArray).size = T.length := by simp [ByteArray.size]
    obtain ⟨S, hS⟩ : ∃ S : ByteArray, (⟨T.toArray⟩ : ByteArray) = S := ⟨_, rfl⟩
    unfold Tx.TextRes at htext
    rw [hS] at htext hTs
    have hT4 : T.length ≤ 4000 := by omega
    have hSs : S.size ≤ 4000 := by omega
    have hput := Lib.hid (fun W => rput_yes T.length hbig W)
    have hpl := Var.put_len_le T.length hbig
    obtain ⟨N, hN⟩ : ∃ N, Var.putN T.length = N := ⟨_, rfl⟩
    rw [hN] at hput hpl ⊢
    have hcells : Lib.strCells S = Lib.byteCells T := by rw [← hS]; exact strV_cells T
    have hbg : ¬ ((S.size : Int) > 268435455) := by omega
    rw [← hTs] at hput
    replace hTs := Lib.hid hTs
    replace hcells := Lib.hid hcells
    clear hT hS hN h0 hp hne hbig hlen
    go_enter Tryz.func72, Tryz.ntmps72
    go_wp2_with fail
    refine htext.out.mono ?_
    rintro e w1 ⟨rfl, q1⟩
    replace q1 := Lib.hid q1
    go_wp2_with fail
    refine (hput.out _).mono ?_
    rintro e w2 ⟨v2, rfl, o2, q2⟩
    replace o2 := Lib.hid o2
    have hz2' := Lib.hid q2.size
    replace q2 := Lib.hid q2
    go_wp2_with (at_builtin; refine wpList_append_own_string _ rfl _ _ 59 9 rfl w1.heap.size 5 i0 Tryz.underlying59 Tryz.underlying9 hi hz0 hz1 hz2 _ _ _ rfl o2.out S rfl (by unfold maxLen; omega) (by omega) hz2'.out ?_; intro v5 w5 hown5 hgrow5 _; have b5 := Lib.hid (below_row q2.out hgrow5 hz2'.out o2.out (Nat.le_refl _)); have o5 := Lib.hid (ownB_of_row (l := N ++ T) hown5 (by rw [List.length_append, hTs.out]) (by rw [hcells.out]; simp [Lib.byteCells])); clear hown5 hgrow5)
    go_ret
    exact ⟨_, rfl, bytes_of_own o5.out, q1.out.trans (b5.out.mono q1.out.size)⟩
end Go.Proofs.YtiidjkhkcckmkaaGreatDoor

