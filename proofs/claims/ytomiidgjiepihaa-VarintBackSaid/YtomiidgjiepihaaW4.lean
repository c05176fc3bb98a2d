/- The walks of layer 2's statements, on: VarintBack. -/
import Derived.Test.YtomiidgjiepihaaC3
namespace Go.Proofs.Ytomiidgjiepihaa
open Go.RowKit Go.Lib

set_option maxHeartbeats 800000 in
theorem varintBack_long (n : Int) (p : Option Addr) (len cap : Nat) (w : World) (hlen : 100 < len) :
    Calls Try.prog 4 #[.int .i64 n, .slice p len cap] w fun e w' => e = .returned (.bool true) ∧ Below w.heap.size w w' := by
  have hlen' : (100 : Int) < (len : Int) := by omega
  go_enter Try.func4, Try.ntmps4
  go_wp2_with fail
  refine (awake_any w).mono ?_
  rintro e w1 ⟨rfl, hb1⟩
  go_wp2_with fail
  go_ret
  exact ⟨rfl, hb1⟩

set_option maxHeartbeats 800000 in
theorem varintBack_no (n : Int) (p : Option Addr) (len cap : Nat) (w : World) (hlen : len ≤ 100) (hn : n < 0 ∨ 268435455 < n) :
    Calls Try.prog 4 #[.int .i64 n, .slice p len cap] w fun e w' => e = .returned (.bool true) ∧ Below w.heap.size w w' := by
  have hlen' : (len : Int) ≤ 100 := by omega
  have hno := Lib.hid (putI_no hn)
  by_cases h : n < 0
  case' neg =>
    have h2 : 268435455 < n := by omega
    have h3 : decide (n < 0) = false := by simp; omega
  all_goals
    clear hn
    go_enter Try.func4, Try.ntmps4
    go_wp2_with fail
    refine (awake_any w).mono ?_
    rintro e w1 ⟨rfl, hb1⟩
    replace hb1 := Lib.hid hb1
    go_wp2_with fail
    refine (put_any n _).mono ?_
    rintro e w2 ⟨v, rfl, hown, hb2⟩
    rw [hno.out] at hown
    obtain ⟨p2, c2, rfl⟩ := bytes_form (bytes_of_own hown)
    have hbel := Lib.hid (hb1.out.trans (hb2.mono hb1.out.size))
    clear hown hb2
    go_wp2_with fail
    refine (size_any n _).mono ?_
    rintro e w3 ⟨rfl, rfl⟩
    rw [hno.out]
    go_wp2_with fail
    go_ret
    exact ⟨rfl, hbel.out⟩

set_option maxHeartbeats 1600000 in
theorem varintBack_yes (n : Nat) (p : Option Addr) (cap : Nat) (bs : List UInt8) (w : World) (hlen : bs.length ≤ 100) (hn : n ≤ 268435455) (hr : RBytes w (.slice p bs.length cap) bs) :
    Calls Try.prog 4 #[.int .i64 (n : Int), .slice p bs.length cap] w fun e w' => e = .returned (.bool true) ∧ Below w.heap.size w w' := by
  have hlen' : (bs.length : Int) ≤ 100 := by omega
  have hn' : (n : Int) ≤ 268435455 := by omega
  have hput := Lib.hid (putI_yes hn)
  obtain ⟨i0, hi, hi0, hi1, hi2⟩ := info_parts info_byte
  have hl4 := Var.put_len_le n hn
  have hl1 := Var.put_len_pos n
  have htk := Var.take_put n hn bs
  have htc := Var.take_cut n hn
  obtain ⟨L, hL⟩ : ∃ L, Var.putN n = L := ⟨_, rfl⟩
  rw [hL] at hput hl4 hl1 htk htc
  have hl4' : (L.length : Int) ≤ 4 := by omega
  have hl1' : (1 : Int) ≤ (L.length : Int) := by omega
  replace hr := Lib.hid hr
  replace htk := Lib.hid htk
  replace htc := Lib.hid htc
  have hm1 := Lib.hid (show 0 + L.length ≤ maxLen by simp [maxLen]; omega)
  have hm2 := Lib.hid (show (0 + L.length) * 1 ≤ 140737488355328 by omega)
  have hm3 := Lib.hid (show L.length + bs.length ≤ maxLen by simp [maxLen]; omega)
  have hm4 := Lib.hid (show (L.length + bs.length) * 1 ≤ 140737488355328 by omega)
  clear hL
  go_enter Try.func4, Try.ntmps4
  go_wp2_with fail
  refine (awake_any w).mono ?_
  rintro e w1 ⟨rfl, hb1⟩
  replace hb1 := Lib.hid hb1
  go_wp2_with fail
  refine (put_any _ _).mono ?_
  rintro e w2 ⟨v, rfl, hown, hb2⟩
  rw [hput.out] at hown
  have hbel := Lib.hid (hb1.out.trans (hb2.mono hb1.out.size))
  have hv := bytes_of_own hown
  obtain ⟨p2, c2, rfl⟩ := bytes_form hv
  obtain ⟨b2, o2, rfl, _, _⟩ := bytes_at hv (by omega)
  replace hv := Lib.hid hv
  clear hb1 hb2 hown
  have hmade := Lib.hid (ownB_made w2.heap.size w2 w2.heap.size rfl (Nat.le_refl _))
  have hsv := Lib.hid (bytes_src (bytes_below hv.out (below_new w2 (Obj.cells #[] 5))))
  have hz1 := Lib.hid (show w2.heap.size ≤ (w2.alloc (Obj.cells #[] 5)).heap.size by simp)
  go_upto_region 8 with (at_builtin; refine wpList_append_src rfl _ _ 22 rfl w2.heap.size 5 i0 (.int .u8 0) 1 Try.underlying22 hi hi0 hi1 hi2 rfl _ _ _ rfl hmade.out _ _ rfl hsv.out (bytes_oneCell L) (by rw [Lib.byteCells_length]; exact hm1.out) (by rw [Lib.byteCells_length]; exact hm2.out) hz1.out ?_; intro v5 w5 hown5 hgrow5)
  have hbel5 := Lib.hid (below_row (below_new w2 (Obj.cells #[] 5)) hgrow5 hz1.out hmade.out (Nat.le_refl _))
  have hown5' := Lib.hid (ownB_of_row (l := L) hown5 (by simp [Lib.byteCells]) (by simp [Lib.byteCells]))
  clear hown5 hgrow5
  have hr5 := Lib.hid (bytes_below (bytes_below hr.out hbel.out) hbel5.out)
  have hz5 := Lib.hid hbel5.out.size
  go_upto_region 9 with (at_builtin; refine wpList_append_src rfl _ _ 22 rfl w2.heap.size 5 i0 (.int .u8 0) 1 Try.underlying22 hi hi0 hi1 hi2 rfl _ _ _ rfl hown5'.out _ _ rfl (bytes_src hr5.out) (bytes_oneCell bs) (by rw [Lib.byteCells_length]; exact hm3.out) (by rw [Lib.byteCells_length]; exact hm4.out) hz5.out ?_; intro v6 w6 hown6 hgrow6)
  have hbel6 := Lib.hid (below_row hbel5.out hgrow6 hz5.out hown5'.out (Nat.le_refl _))
  have hr6 := Lib.hid (bytes_of_own (ownB_of_row (l := L ++ bs) hown6 (by simp [Lib.byteCells]) (by simp [Lib.byteCells])))
  have hv6 := Lib.hid (bytes_below hv.out hbel6.out)
  have hbel7 := Lib.hid (hbel.out.trans (hbel6.out.mono hbel.out.size))
  clear hown6 hgrow6 hown5' hr5 hz5 hbel5 hbel6 hv hz1 hbel hr hm1 hm2 hm3 hm4
  obtain ⟨A, hA⟩ : ∃ A, L ++ bs = A := ⟨_, rfl⟩
  rw [hA] at hr6 htk
  clear hA
  obtain ⟨p6, c6, rfl⟩ := bytes_form hr6.out
  go_wp2_with fail
  refine (take_any _ _ _ hr6.out).mono ?_
  rintro e w7 ⟨rfl, rfl⟩
  rw [htk.out]
  obtain ⟨k, hk⟩ : ∃ k, L.length = k + 1 := ⟨L.length - 1, by omega⟩
  rw [show L.length - 1 = k by omega] at htc
  have hk1 : (L.length : Int) - 1 = (k : Int) := by omega
  have hkc := bytes_cap hv6.out
  have hkc' : (k : Int) ≤ (c2 : Int) := by omega
  have hrk := Lib.hid (bytes_take (cap' := c2) hv6.out k (by omega) (by omega))
  replace hk := Lib.hid hk
  clear hkc
  go_wp2_with fail
  refine (take_any _ _ _ hrk.out).mono ?_
  rintro e w8 ⟨rfl, rfl⟩
  rw [htc.out]
  go_wp2_with fail
  go_ret
  exact ⟨rfl, hbel7.out⟩

theorem varintBack_walk (n : Int) (v : Value) (bs : List UInt8) (w : World) (_ : -9223372036854775808 ≤ n ∧ n ≤ 9223372036854775807) (hr : RBytes w v bs) :
    Calls Try.prog 4 #[.int .i64 n, v] w fun e w' => e = .returned (.bool true) ∧ Below w.heap.size w w' := by
  obtain ⟨p, cap, rfl⟩ := bytes_form hr
  by_cases hl : bs.length ≤ 100
  · by_cases hn : n < 0 ∨ 268435455 < n
    · exact varintBack_no n p _ cap w hl hn
    · obtain ⟨m, rfl⟩ : ∃ m : Nat, n = m := ⟨n.toNat, by omega⟩
      exact varintBack_yes m p cap bs w hl (by omega) hr
  · exact varintBack_long n p _ cap w (by omega)
end Go.Proofs.Ytomiidgjiepihaa
