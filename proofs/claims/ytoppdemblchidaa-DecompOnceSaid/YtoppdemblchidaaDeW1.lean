/- Layer 4: the walks of DecompSyllables and DecompWide. -/
import Derived.Test.YtoppdemblchidaaDeW0
import Derived.Test.YtoppdemblchidaaK4
import Derived.Test.YtoppdemblchidaaPrA2
namespace Go.Proofs.Ytoppdemblchidaa
open Go.RowKit Go.Lib

theorem syl_full (x y z : Int) (hx : 0 ≤ x ∧ x < 19) (hy : 0 ≤ y ∧ y < 21) (hz : 0 ≤ z ∧ z < 28) : Dcp.fullI (44032 + (x * 21 + y) * 28 + z) = if z = 0 then [4352 + x, 4449 + y] else [4352 + x, 4449 + y, 4519 + z] := by
  rw [Dcp.full_syl (by omega)]
  unfold Dcp.sylL
  rw [show 44032 + (x * 21 + y) * 28 + z - 0xAC00 = (x * 21 + y) * 28 + z by omega, show ((x * 21 + y) * 28 + z) % 28 = z by omega, show ((x * 21 + y) * 28 + z) / 588 = x by omega, show ((x * 21 + y) * 28 + z) % 588 / 28 = y by omega]

set_option maxHeartbeats 1600000 in
theorem decompSyllables_walk (a b c : Int) (w : World) (_ : -9223372036854775808 ≤ a ∧ a ≤ 9223372036854775807) (_ : -9223372036854775808 ≤ b ∧ b ≤ 9223372036854775807) (_ : -9223372036854775808 ≤ c ∧ c ≤ 9223372036854775807) :
    Calls Try.prog 5 #[.int .i64 a, .int .i64 b, .int .i64 c] w fun e w' => e = .returned (.bool true) ∧ Below w.heap.size w w' := by
  have ha := and65535 a
  have hb := and65535 b
  have hc := and65535 c
  obtain ⟨a', ha'⟩ : ∃ a', a % 65536 = a' := ⟨_, rfl⟩
  obtain ⟨b', hb'⟩ : ∃ b', b % 65536 = b' := ⟨_, rfl⟩
  obtain ⟨c', hc'⟩ : ∃ c', c % 65536 = c' := ⟨_, rfl⟩
  have ha0 : 0 ≤ a' ∧ a' < 65536 := by omega
  have hb0 : 0 ≤ b' ∧ b' < 65536 := by omega
  have hc0 : 0 ≤ c' ∧ c' < 65536 := by omega
  rw [ha'] at ha
  rw [hb'] at hb
  rw [hc'] at hc
  clear ha' hb' hc'
  obtain ⟨ha1, ha2⟩ := ha0
  obtain ⟨hb1, hb2⟩ := hb0
  obtain ⟨hc1, hc2⟩ := hc0
  obtain ⟨x, hx⟩ : ∃ x, a' % 19 = x := ⟨_, rfl⟩
  obtain ⟨y, hy⟩ : ∃ y, b' % 21 = y := ⟨_, rfl⟩
  obtain ⟨z, hz⟩ : ∃ z, c' % 28 = z := ⟨_, rfl⟩
  have hx0 : 0 ≤ x ∧ x < 19 := by omega
  have hy0 : 0 ≤ y ∧ y < 21 := by omega
  have hz0 : 0 ≤ z ∧ z < 28 := by omega
  have hful := syl_full x y z hx0 hy0 hz0
  have hrb : -9223372036854775808 ≤ 44032 + (x * 21 + y) * 28 + z ∧ 44032 + (x * 21 + y) * 28 + z ≤ 9223372036854775807 := by omega
  obtain ⟨hx1, hx2⟩ := hx0
  obtain ⟨hy1, hy2⟩ := hy0
  obtain ⟨hz1, hz2⟩ := hz0
  by_cases h0 : z = 0
  · rw [if_pos h0] at hful
    subst h0
    rw [Int.add_zero] at hful hrb
    obtain ⟨r, hr⟩ : ∃ r, 44032 + (x * 21 + y) * 28 = r := ⟨_, rfl⟩
    rw [hr] at hful hrb
    have hf := Lib.hid (full_is r _ hful hrb)
    clear hful hrb
    go_enter Try.func5, Try.ntmps5
    go_wp2_with fail
    refine (awake4 w).mono ?_
    rintro e w1 ⟨rfl, hb1⟩
    replace hb1 := Lib.hid hb1
    go_wp2_with fail
    refine (hf.out _).mono ?_
    rintro e w2 ⟨v, rfl, hv, hb2⟩
    obtain ⟨g, cap, rfl, hB, hlt, hcell⟩ := ownI_open hv (by simp)
    have d0 : w2.cell? ⟨g, 0, none⟩ = some (.int .i64 (4352 + x)) := hcell 0 (by simp)
    have d1 : w2.cell? ⟨g, 1, none⟩ = some (.int .i64 (4449 + y)) := hcell 1 (by simp)
    clear hcell hv
    replace hb2 := Lib.hid (below_trans4 hb1.out hb2)
    go_wp2_with fail
    go_ret
    exact ⟨rfl, hb2.out⟩
  · rw [if_neg h0] at hful
    obtain ⟨r, hr⟩ : ∃ r, 44032 + (x * 21 + y) * 28 + z = r := ⟨_, rfl⟩
    rw [hr] at hful hrb
    have hf := Lib.hid (full_is r _ hful hrb)
    have hz0 : (z == 0) = false := by simp [h0]
    have hz3 : 0 < z := by omega
    clear hful h0
    go_enter Try.func5, Try.ntmps5
    go_wp2_with fail
    refine (awake4 w).mono ?_
    rintro e w1 ⟨rfl, hb1⟩
    replace hb1 := Lib.hid hb1
    go_wp2_with fail
    refine (hf.out _).mono ?_
    rintro e w2 ⟨v, rfl, hv, hb2⟩
    obtain ⟨g, cap, rfl, hB, hlt, hcell⟩ := ownI_open hv (by simp)
    have d0 : w2.cell? ⟨g, 0, none⟩ = some (.int .i64 (4352 + x)) := hcell 0 (by simp)
    have d1 : w2.cell? ⟨g, 1, none⟩ = some (.int .i64 (4449 + y)) := hcell 1 (by simp)
    have d2 : w2.cell? ⟨g, 2, none⟩ = some (.int .i64 (4519 + z)) := hcell 2 (by simp)
    clear hcell hv
    replace hb2 := Lib.hid (below_trans4 hb1.out hb2)
    go_wp2_with fail
    go_ret
    exact ⟨rfl, hb2.out⟩

theorem mark_all : ∀ k : Fin 64, Prp.mrkB (768 + (k.1 : Int)) = true := by decide +kernel
theorem mark_row (m : Int) (h1 : 768 ≤ m) (h2 : m < 832) : Prp.mrkB m = true := by
  have h := mark_all ⟨(m - 768).toNat, by omega⟩
  rw [show 768 + (((m - 768).toNat : Nat) : Int) = m by omega] at h
  exact h

theorem is_no {r : Int} (h : Dcp.fullI r = [r]) (h1 : ¬ (0xAC00 ≤ r ∧ r ≤ 0xD7A3)) (h2 : ¬ (0xFF01 ≤ r ∧ r ≤ 0xFF5E)) : isB r = false := by
  unfold isB
  have e : Lk.look Dcp.T r = none := by
    cases e : Lk.look Dcp.T r with
    | none => rfl
    | some p =>
      have h3 : Dcp.fullI r = p := by unfold Dcp.fullI; rw [if_neg h1, if_neg h2, e]; rfl
      obtain ⟨_, _, c⟩ := Dcp.parts_far _ (Lk.look_mem e) r (by rw [← h3, h]; exact List.mem_cons_self ..)
      exact absurd rfl (c _ (Lk.look_mem e))
  rw [e]
  simp
  omega

theorem is_wide {r : Int} (h2 : 0xFF01 ≤ r ∧ r ≤ 0xFF5E) : isB r = true := by
  unfold isB
  simp [h2]

set_option maxHeartbeats 1600000 in
theorem decompWide_walk (n : Int) (w : World) (_ : -9223372036854775808 ≤ n ∧ n ≤ 9223372036854775807) :
    Calls Try.prog 6 #[.int .i64 n] w fun e w' => e = .returned (.bool true) ∧ Below w.heap.size w w' := by
  have ha := and65535 n
  have hb := and63 n
  obtain ⟨a', ha'⟩ : ∃ a', n % 65536 = a' := ⟨_, rfl⟩
  obtain ⟨b', hb'⟩ : ∃ b', n % 64 = b' := ⟨_, rfl⟩
  have ha0 : 0 ≤ a' ∧ a' < 65536 := by omega
  have hb0 : 0 ≤ b' ∧ b' < 64 := by omega
  rw [ha'] at ha
  rw [hb'] at hb
  clear ha' hb'
  obtain ⟨ha1, ha2⟩ := ha0
  obtain ⟨hb1, hb2⟩ := hb0
  obtain ⟨j, hj⟩ : ∃ j, a' % 94 = j := ⟨_, rfl⟩
  have hj0 : 0 ≤ j ∧ j < 94 := by omega
  obtain ⟨hj1, hj2⟩ := hj0
  obtain ⟨k, hk⟩ : ∃ k, j + 1 = k := ⟨_, rfl⟩
  have hk0 : 0 < k ∧ k < 95 := by omega
  obtain ⟨hk1, hk2⟩ := hk0
  obtain ⟨m, hm⟩ : ∃ m, 768 + b' = m := ⟨_, rfl⟩
  have hm0 : 768 ≤ m ∧ m < 832 := by omega
  obtain ⟨hm1, hm2⟩ := hm0
  obtain ⟨p, hp⟩ : ∃ p, 65280 + k = p := ⟨_, rfl⟩
  obtain ⟨q, hq⟩ : ∃ q, 32 + k = q := ⟨_, rfl⟩
  have hf1 := Lib.hid (full_is p [q] (by rw [Dcp.full_wide (by omega)]; congr 1; omega) (by omega))
  have hf2 := Lib.hid (full_is q [q] (Dcp.full_ascii (by omega)) (by omega))
  have hf3 := Lib.hid (full_is m [m] (Dcp.full_mark (by omega)) (by omega))
  have hi1 := Lib.hid (is_is p true (is_wide (by omega)))
  have hi2 := Lib.hid (is_is q false (is_no (Dcp.full_ascii (by omega)) (by omega) (by omega)))
  have hmk := mark_any m
  rw [mark_row m hm1 hm2] at hmk
  replace hmk := Lib.hid hmk
  go_enter Try.func6, Try.ntmps6
  go_wp2_with fail
  refine (awake4 w).mono ?_
  rintro e w1 ⟨rfl, hb1⟩
  replace hb1 := Lib.hid hb1
  go_wp2_with fail
  refine (hf1.out _).mono ?_
  rintro e w2 ⟨v, rfl, hv, hb2⟩
  obtain ⟨g, cap, rfl, hB, hlt, hcell⟩ := ownI_open hv (by simp)
  have c0 := hcell 0 (by simp)
  clear hcell hv
  replace c0 := Lib.hid c0
  replace hb2 := Lib.hid (below_trans4 hb1.out hb2)
  go_wp2_with fail
  refine (hf2.out _).mono ?_
  rintro e w3 ⟨v, rfl, hv, hb3⟩
  obtain ⟨g2, cap2, rfl, hB2, hlt2, hcell⟩ := ownI_open hv (by simp)
  have c1 := hcell 0 (by simp)
  replace c0 : w3.cell? ⟨g, 0, none⟩ = some (.int .i64 q) := by rw [hb3.cell hlt]; exact c0.out
  replace hlt := Nat.lt_of_lt_of_le hlt hb3.size
  clear hcell hv
  replace c0 := Lib.hid c0
  replace c1 := Lib.hid c1
  replace hb3 := Lib.hid (below_trans4 hb2.out hb3)
  go_wp2_with fail
  refine (hf3.out _).mono ?_
  rintro e w4 ⟨v, rfl, hv, hb4⟩
  obtain ⟨g3, cap3, rfl, hB3, hlt3, hcell⟩ := ownI_open hv (by simp)
  have c2 := hcell 0 (by simp)
  replace c0 : w4.cell? ⟨g, 0, none⟩ = some (.int .i64 q) := by rw [hb4.cell hlt]; exact c0.out
  replace c1 : w4.cell? ⟨g2, 0, none⟩ = some (.int .i64 q) := by rw [hb4.cell hlt2]; exact c1.out
  replace hlt := Nat.lt_of_lt_of_le hlt hb4.size
  replace hlt2 := Nat.lt_of_lt_of_le hlt2 hb4.size
  clear hcell hv
  replace c2 := Lib.hid c2
  replace hb4 := Lib.hid (below_trans4 hb3.out hb4)
  have k0 := Lib.hid c0
  have k1 := Lib.hid c1
  go_wp2_with fail
  refine (hi1.out _).mono ?_
  rintro e w5 ⟨rfl, hb5⟩
  clear c0 c1
  have c1 : w5.cell? ⟨g2, 0, none⟩ = some (.int .i64 q) := by rw [hb5.cell hlt2]; exact k1.out
  replace c2 : w5.cell? ⟨g3, 0, none⟩ = some (.int .i64 m) := by rw [hb5.cell hlt3]; exact c2.out
  replace hlt3 := Nat.lt_of_lt_of_le hlt3 hb5.size
  replace hb5 := Lib.hid (below_trans4 hb4.out hb5)
  replace c2 := Lib.hid c2
  go_wp2_with fail
  refine (hi2.out _).mono ?_
  rintro e w6 ⟨rfl, hb6⟩
  clear c1
  replace c2 : w6.cell? ⟨g3, 0, none⟩ = some (.int .i64 m) := by rw [hb6.cell hlt3]; exact c2.out
  replace hlt3 := Nat.lt_of_lt_of_le hlt3 hb6.size
  replace hb6 := Lib.hid (below_trans4 hb5.out hb6)
  replace c2 := Lib.hid c2
  go_wp2_with fail
  refine (hmk.out _).mono ?_
  rintro e w7 ⟨rfl, hb7⟩
  replace c2 : w7.cell? ⟨g3, 0, none⟩ = some (.int .i64 m) := by rw [hb7.cell hlt3]; exact c2.out
  replace hb7 := Lib.hid (below_trans4 hb6.out hb7)
  go_wp2_with fail
  go_ret
  exact ⟨rfl, hb7.out⟩

end Go.Proofs.Ytoppdemblchidaa
