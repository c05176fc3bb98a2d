/- Go's library: strconv.ParseUint of four hex digits, at base 16 and 16 bits. -/
import Derived.Test.YtkhjkodeolaemaaDoorPaX
import Derived.Test.YtkhjkodeolaemaaDoorShelf
import Derived.Test.YtkhjkodeolaemaaDoorG0
import Derived.Lib.ConvBytes
import Derived.Laws.BitsLemmas
import Derived.Deep.LoopGhost
import Derived.Deep.DeepCutAuto
import Derived.KernelRfl
namespace Go.Proofs.YtkhjkodeolaemaaDoor
set_option linter.unusedSimpArgs false
set_option linter.unusedVariables false
open Go.RowKit Go.Lib

theorem hex_lower : ∀ k : Fin 6, bits .or .u8 (65 + (k.1 : Int)) 32 = 97 + (k.1 : Int) := by decide +kernel
theorem hex_low (c : Nat) (h1 : 65 ≤ c) (h2 : c ≤ 70) : bits .or .u8 (c : Int) 32 = (c : Int) + 32 := by
  have h := hex_lower ⟨c - 65, by omega⟩
  rw [show 65 + ((c - 65 : Nat) : Int) = (c : Int) by omega] at h
  rw [h]
  show 97 + ((c - 65 : Nat) : Int) = _
  omega

theorem hexD_dec : ∀ k : Fin 10, Dcp.hexD (UInt8.ofNat (48 + k.1)) = (k.1 : Int) := by decide +kernel
theorem hexD_let : ∀ k : Fin 6, Dcp.hexD (UInt8.ofNat (65 + k.1)) = (k.1 : Int) + 10 := by decide +kernel
theorem hexD_low (c : UInt8) (h1 : 48 ≤ c.toNat) (h2 : c.toNat ≤ 57) : Dcp.hexD c = (c.toNat : Int) - 48 := by
  have h := hexD_dec ⟨c.toNat - 48, by omega⟩
  simp only [show 48 + (c.toNat - 48) = c.toNat by omega, UInt8.ofNat_toNat] at h
  rw [h]
  omega
theorem hexD_high (c : UInt8) (h1 : 65 ≤ c.toNat) (h2 : c.toNat ≤ 70) : Dcp.hexD c = (c.toNat : Int) - 55 := by
  have h := hexD_let ⟨c.toNat - 65, by omega⟩
  simp only [show 65 + (c.toNat - 65) = c.toNat by omega, UInt8.ofNat_toNat] at h
  rw [h]
  omega

/-- hex digits make small numbers -/
theorem numF_hex (l : List UInt8) (h : l.all Par.hexB = true) (hl : l.length ≤ 4) : 0 ≤ Dcp.numF l ∧ Dcp.numF l < 65536 := by
  have hb := Dcp.numF_bd l hl
  refine ⟨?_, hb.2⟩
  clear hb hl
  have key : ∀ (l : List UInt8) (n : Int), 0 ≤ n → l.all Par.hexB = true → 0 ≤ l.foldl (fun n c => n * 16 + Dcp.hexD c) n := by
    intro l
    induction l with
    | nil => intro n hn _; exact hn
    | cons c t ih =>
      intro n hn h
      simp only [List.all_cons, Bool.and_eq_true] at h
      refine ih _ ?_ h.2
      have h1 := h.1
      unfold Par.hexB at h1
      simp only [Bool.or_eq_true, Bool.and_eq_true, decide_eq_true_eq] at h1
      rcases h1 with ⟨a, b⟩ | ⟨a, b⟩
      · show 0 ≤ n * 16 + Dcp.hexD c
        rw [hexD_low c a b]; omega
      · show 0 ≤ n * 16 + Dcp.hexD c
        rw [hexD_high c a b]; omega
  exact key l 0 (by omega) h

noncomputable abbrev worldU (W : World) (s : ByteArray) : World := Lib.bytesWorld W 5 s

theorem worldU_below (W : World) (s : ByteArray) : Below W.heap.size W (worldU W s) := by
  refine ⟨rfl, rfl, rfl, ?_, fun k hk => Lib.bytesWorld_at_old W _ s k hk⟩
  have := Lib.bytesWorld_size W 5 s
  show W.heap.size ≤ (Lib.bytesWorld W 5 s).heap.size
  omega

set_option maxRecDepth 100000 in
set_option maxHeartbeats 3200000 in
theorem iparse16 (t : ByteArray) (ht : t.size = 4) (hh : t.data.toList.all Par.hexB = true) (w : World) :
    Calls Tryd.prog 69 #[.string t, .int .i64 16, .int .i64 16] w fun e w' => e = .returned (.tuple #[.int .u64 (Dcp.numF t.data.toList), .nilIface]) ∧ Below w.heap.size w w' := by
  have hemp : t.toList.isEmpty = false := by
    rw [← decide_eq_emptyBytes]
    exact decide_eq_false (fun h => by rw [h] at ht; cases ht)
  have hcv := Lib.run_convert_string_bytes (P := Tryd.prog) w 9 90 5 t Tryd.underlying9 Tryd.underlying90 Tryd.underlying5
  have hB : ∀ j, j < 4 → (worldU w t).cell? ⟨w.heap.size, j, none⟩ = some (.int .u8 (t.data.toList.getD j 0).toNat) := fun j hj => Lib.bytesWorld_cell w 5 t j (by omega)
  have hbel := worldU_below w t
  unfold worldU at hB hbel
  rw [ht] at hcv
  obtain ⟨W1, hW1⟩ : ∃ W1, W1 = Lib.bytesWorld w 5 t := ⟨_, rfl⟩
  obtain ⟨cp, hcp⟩ : ∃ cp, cp = grownCap w 4 0 5 := ⟨_, rfl⟩
  rw [← hW1] at hB hbel
  rw [← hW1, ← hcp] at hcv
  clear hW1 hcp
  replace ht := Lib.hid ht
  obtain ⟨bs, hL⟩ : ∃ bs, bs = t.data.toList := ⟨_, rfl⟩
  have hLn : bs.length = 4 := by rw [hL, ← Lib.size_eq]; exact ht.out
  rw [← hL] at hB hh ⊢
  replace hL := Lib.hid hL
  replace hB := Lib.hid hB
  replace hbel := Lib.hid hbel
  replace hLn := Lib.hid hLn
  replace hh := Lib.hid hh
  have hmv : IntKind.u64.wrap (IntKind.u64.wrap 65536 - 1) = 65535 := by
    rw [IntKind.wrap_u64, IntKind.wrap_u64]
    decide
  go_enter Tryd.func69, Tryd.ntmps69
  go_wp2_with fail
  go_loop [12, 13, 101] (fun vu vn vi => ∃ (k : Nat) (a : Int), vu = .bool false ∧ vn = .int .u64 a ∧ vi = .int .i64 k ∧ k ≤ 4 ∧ Hid (a = Dcp.numF (bs.take k)))
    (fun _ _ vi => 4 - (RowKit.intOf vi).toNat)
  case atStart => exact ⟨0, 0, rfl, rfl, rfl, by omega, Lib.hid rfl⟩
  case round =>
    obtain ⟨k, a, rfl, rfl, rfl, hk, ha⟩ := hrel
    have hall : (bs.take k).all Par.hexB = true := by
      have h := hh.out
      rw [List.all_eq_true] at h ⊢
      exact fun x hx => h x (List.mem_of_mem_take hx)
    by_cases hkn : k < 4
    · have hab : 0 ≤ a ∧ a < 4096 := by
        rw [ha.out]
        have h1 := numF_hex _ hall (by rw [List.length_take]; omega)
        refine ⟨h1.1, ?_⟩
        have hl := hLn.out
        have h2 : ∀ (l : List UInt8), l.length ≤ 3 → Dcp.numF l < 4096 := by
          intro l hl
          match l, hl with
          | [], _ => decide
          | [a], _ => have := Dcp.hexD_bd a; simp only [Dcp.numF, List.foldl]; omega
          | [a, b], _ => have := Dcp.hexD_bd a; have := Dcp.hexD_bd b; simp only [Dcp.numF, List.foldl]; omega
          | [a, b, c], _ => have := Dcp.hexD_bd a; have := Dcp.hexD_bd b; have := Dcp.hexD_bd c; simp only [Dcp.numF, List.foldl]; omega
          | _ :: _ :: _ :: _ :: _, h => simp at h
        exact h2 _ (by rw [List.length_take]; omega)
      obtain ⟨a0, a1⟩ := hab
      clear hall
      have hl := hLn.out
      have hc := hB.out k hkn
      have hget : bs.getD k 0 = bs[k]'(by omega) := by simp [List.getD, List.getElem?_eq_getElem (show k < bs.length by omega)]
      have hsn : bs.take (k + 1) = bs.take k ++ [bs[k]'(by omega)] := by rw [List.take_succ_eq_append_getElem (by omega)]
      have hx : Par.hexB (bs[k]'(by omega)) = true := List.all_eq_true.1 hh.out _ (List.getElem_mem _)
      rw [hget] at hc
      generalize bs[k]'(by omega) = c at hc hsn hx
      have hnx := Dcp.numF_snoc (bs.take k) c
      rw [← hsn, ← ha.out] at hnx
      have hc256 : c.toNat < 256 := c.toNat_lt
      clear hget hsn hl
      unfold Par.hexB at hx
      simp only [Bool.or_eq_true, Bool.and_eq_true, decide_eq_true_eq] at hx
      rcases hx with ⟨d0, d1⟩ | ⟨d0, d1⟩
      · rw [hexD_low c d0 d1] at hnx
        replace hnx := Lib.hid hnx
        obtain ⟨x, hx⟩ : ∃ x : Int, (c.toNat : Int) = x := ⟨_, rfl⟩
        have hx0 : 48 ≤ x ∧ x ≤ 57 := by omega
        obtain ⟨x0, x1⟩ := hx0
        rw [hx] at hc hnx
        have hx95 : (x == 95) = false := beq_eq_false_iff_ne.2 (by omega)
        clear d0 d1 hc256 hx
        go_wp2_with fail
        refine ⟨⟨k + 1, a * 16 + (x - 48), rfl, (by first | rfl | (congr 1; omega)), (by first | rfl | (congr 1; omega)), by omega, Lib.hid hnx.out.symm⟩, by simp [RowKit.intOf]; omega⟩
      · rw [hexD_high c d0 d1] at hnx
        replace hnx := Lib.hid hnx
        have hlow := hex_low c.toNat d0 d1
        obtain ⟨x, hx⟩ : ∃ x : Int, (c.toNat : Int) = x := ⟨_, rfl⟩
        have hx0 : 65 ≤ x ∧ x ≤ 70 := by omega
        obtain ⟨x0, x1⟩ := hx0
        rw [hx] at hc hnx hlow
        have hx95 : (x == 95) = false := beq_eq_false_iff_ne.2 (by omega)
        have hx57 : decide (x ≤ 57) = false := by simp; omega
        have hlw : ∀ W, Calls Tryd.prog 73 #[.int .u8 x] W fun e w' => e = .returned (.int .u8 (x + 32)) ∧ w' = W := fun W => by
          have := Tryd.internal_strconv_lower x W
          rw [hlow] at this
          exact this
        replace hlw := Lib.hid hlw
        clear d0 d1 hc256 hx hlow
        go_wp2_with (go_at_call 73; refine (hlw.out _).mono ?_; rintro e w' ⟨rfl, rfl⟩)
        refine ⟨⟨k + 1, a * 16 + (x - 55), rfl, (by first | rfl | (congr 1; omega)), (by first | rfl | (congr 1; omega)), by omega, Lib.hid hnx.out.symm⟩, by simp [RowKit.intOf]; omega⟩
    · obtain rfl : k = 4 := by omega
      have hf := ha.out
      rw [List.take_of_length_le (by rw [hLn.out]; omega)] at hf
      replace hf := Lib.hid hf
      clear hall ha
      go_wp2_with fail
      go_ret2
      exact ⟨by rw [hf.out]; rfl, hbel.out⟩

set_option maxHeartbeats 800000 in
theorem parse16 (t : ByteArray) (ht : t.size = 4) (hh : t.data.toList.all Par.hexB = true) (w : World) :
    Calls Tryd.prog 64 #[.string t, .int .i64 16, .int .i64 16] w fun e w' => e = .returned (.tuple #[.int .u64 (Dcp.numF t.data.toList), .nilIface]) ∧ Below w.heap.size w w' := by
  have h := Lib.hid (iparse16 t ht hh w)
  clear ht hh
  go_enter Tryd.func64, Tryd.ntmps64
  go_wp2_with fail
  refine h.out.mono ?_
  rintro e w1 ⟨rfl, hb⟩
  replace hb := Lib.hid hb
  go_wp2_with fail
  go_ret2
  exact ⟨rfl, hb.out⟩

end Go.Proofs.YtkhjkodeolaemaaDoor
