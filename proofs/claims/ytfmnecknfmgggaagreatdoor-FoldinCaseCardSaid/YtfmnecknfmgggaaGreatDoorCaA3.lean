/- Layer 6: the code's Fold. -/
import Derived.Test.YtfmnecknfmgggaaGreatDoorCaA2
namespace Go.Proofs.YtfmnecknfmgggaaGreatDoor
set_option linter.unusedSimpArgs false
set_option linter.unusedVariables false
open Go.RowKit Go.Lib Go.Maps

set_option maxHeartbeats 1600000 in
theorem fold_any (r : Int) (w : World) (h0 : -9223372036854775808 ≤ r) (h1 : r ≤ 9223372036854775807) : Calls Tryz.prog 19 #[.int .i64 r] w (Makes (Cas.foldI r) w) := by
  have hf := Cas.fold_code r
  have hpart := part_any r
  have hbd := @Cas.code_bd r
  obtain ⟨hat, hhas⟩ := Cas.putAll_at .i64 .u64 r (Cas.partT r)
  obtain ⟨T, hT⟩ : ∃ T, Cas.partT r = T := ⟨_, rfl⟩
  rw [hT] at hf hpart hat hhas hbd
  clear hT
  have hz : ∀ w : World, (zeroValue 45).run Tryz.prog w = .ok (.int .u64 0) w := fun w => by kernel_rfl
  have hkey : keyOf Tryz.prog 3 (.int .i64 r) = some (.int .i64 r) := keyOf_int_mk Tryz.underlying3 (by simp only [Lit.wf, Bool.and_eq_true, decide_eq_true_eq]; exact ⟨h0, h1⟩)
  have hnil : ∀ w : World, (Instr.lookup 47 (.map none) (.int .i64 r) true).run Tryz.prog w = .ok (.tuple #[.int .u64 0, .bool false]) w := fun w =>
    Maps.look_nil true (int_keyed Tryz.underlying3) Tryz.underlying47 (hz w) hkey
  have hcase : (∃ h, Cas.lookR T r = some h) ∨ Cas.lookR T r = none := by
    cases Cas.lookR T r with
    | none => exact .inr rfl
    | some h => exact .inl ⟨h, rfl⟩
  rcases hcase with ⟨h, hl⟩ | hl
  · rw [hl] at hf
    replace hf := Lib.hid hf
    have hb := hbd hl
    obtain ⟨hb0, hb1⟩ := hb
    have hvals := Lib.hid (fun w => values_any h w hb0 hb1)
    have hT : T ≠ [] := fun e => by rw [e] at hl; cases hl
    have hat' : (putAll .i64 .u64 (.map []) T).atKey (.int .i64 r) (.lit (.int .u64 0)) = .lit (.int .u64 h) := by rw [hat, hl]
    have hhas' : Maps.has (putAll .i64 .u64 (.map []) T) (.int .i64 r) = true := by rw [hhas, hl]; rfl
    replace hat' := Lib.hid hat'
    replace hz := Lib.hid hz
    replace hkey := Lib.hid hkey
    replace hpart := Lib.hid hpart
    clear hat hhas hbd hl hnil
    go_enter Tryz.func19, Tryz.ntmps19
    go_wp2_with fail
    refine (hpart.out _ h0 h1).mono ?_
    rintro e w1 (⟨he, _⟩ | ⟨b, rfl, ⟨m, hm⟩, hbel⟩)
    · exact absurd he hT
    replace hm := Lib.hid hm
    replace hbel := Lib.hid hbel
    clear hT
    go_wp2_with (at_lookup; refine wpList_lookup_own_ok_int _ rfl _ _ 47 rfl 3 45 .u64 (int_keyed Tryz.underlying3) Tryz.underlying47 Tryz.underlying45 (hz.out _) b m _ rfl hm.out _ (.int .i64 r) rfl hkey.out ?_; intro c hc _; obtain rfl : c = h := (by have := hc.symm.trans hat'.out; simpa using this); clear hc)
    refine (hvals.out _).mono ?_
    rintro e w2 ⟨v, rfl, hv, hb2⟩
    replace hv := Lib.hid hv
    replace hb2 := Lib.hid hb2
    go_wp2_with fail
    go_ret
    exact ⟨_, rfl, ownI_mono (ownI_cast hv.out hf.out.symm) hbel.out.size, below_on hbel.out hb2.out⟩
  · rw [hl] at hf
    replace hf := Lib.hid hf
    have hhas' : Maps.has (putAll .i64 .u64 (.map []) T) (.int .i64 r) = false := by rw [hhas, hl]; rfl
    replace hz := Lib.hid hz
    replace hkey := Lib.hid hkey
    replace hpart := Lib.hid hpart
    clear hat hhas hbd hl
    go_enter Tryz.func19, Tryz.ntmps19
    go_wp2_with fail
    refine (hpart.out _ h0 h1).mono ?_
    rintro e w1 (⟨he, rfl, hbel⟩ | ⟨b, rfl, ⟨m, hm⟩, hbel⟩)
    · replace he := Lib.hid he
      replace hbel := Lib.hid hbel
      replace hhas' := Lib.hid hhas'
      go_wp2_with fail
      go_ret
      exact ⟨_, rfl, ownI_cast (ownI_lit w.heap.size w1 [r] #[.int .i64 r] _ 1 rfl hbel.out.size rfl rfl (by unfold maxLen; omega)) hf.out.symm, hbel.out.alloc hbel.out.size _⟩
    · replace hm := Lib.hid hm
      replace hbel := Lib.hid hbel
      clear hnil
      go_wp2_with (at_lookup; refine wpList_lookup_own_ok_int _ rfl _ _ 47 rfl 3 45 .u64 (int_keyed Tryz.underlying3) Tryz.underlying47 Tryz.underlying45 (hz.out _) b m _ rfl hm.out _ (.int .i64 r) rfl hkey.out ?_; intro c hc _; clear hc)
      go_ret
      exact ⟨_, rfl, ownI_cast (ownI_lit w.heap.size w1 [r] #[.int .i64 r] _ 1 rfl hbel.out.size rfl rfl (by unfold maxLen; omega)) hf.out.symm, hbel.out.alloc hbel.out.size _⟩
end Go.Proofs.YtfmnecknfmgggaaGreatDoor
