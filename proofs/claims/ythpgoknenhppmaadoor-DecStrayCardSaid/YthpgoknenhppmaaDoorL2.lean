/- The walks of layer 1's statements, on: DecGood. -/
import Derived.Test.YthpgoknenhppmaaDoorL1
import Derived.Test.YthpgoknenhppmaaDoorM6
namespace Go.Proofs.YthpgoknenhppmaaDoor
open Go.RowKit Go.Lib

/-- a counter -/
def Upto (n : Nat) (w : World) (i : Value) (wr : World) : Prop := w = wr ∧ ∃ k : Nat, k ≤ n ∧ i = .int .i64 k

set_option maxHeartbeats 800000 in
theorem decGood_long (p : Option Addr) (n cap : Nat) (w : World) (hT : Lib.Utf8Tabs 0 1 w) (hlen : 300 < n) :
    Calls Tryd.prog 6 #[.slice p n cap] w fun e w' => e = .returned (.bool true) ∧ Below w.heap.size w w' := by
  have hT' := Lib.hid hT
  have hlen' : (300 : Int) < (n : Int) := by omega
  clear hT
  go_enter Tryd.func6, Tryd.ntmps6
  go_wp2_with fail
  refine (awake_any w hT'.out).mono ?_
  rintro e w1 ⟨rfl, hb1⟩
  go_wp2_with fail
  go_ret
  exact ⟨rfl, hb1⟩

set_option maxHeartbeats 800000 in
theorem decGood_short (p : Option Addr) (cap : Nat) (bs : List UInt8) (w : World) (hT : Lib.Utf8Tabs 0 1 w) (hlen : bs.length ≤ 300) (hr : RBytes w (.slice p bs.length cap) bs) :
    Calls Tryd.prog 6 #[.slice p bs.length cap] w fun e w' => e = .returned (.bool true) ∧ Below w.heap.size w w' := by
  have hr := Lib.hid hr
  have hT' := Lib.hid hT
  have hlen' : (bs.length : Int) ≤ 300 := by omega
  have hcv := run_toBytes
  clear hT
  go_enter Tryd.func6, Tryd.ntmps6
  go_wp2_with fail
  refine (awake_any w hT'.out).mono ?_
  rintro e w1 ⟨rfl, hb1⟩
  have hr1 := Lib.hid (bytes_below hr.out hb1)
  go_wp2_with fail
  refine (all_any _ bs w1 (Utf8Tabs_below hT'.out hb1) (by omega) hr1.out).mono ?_
  rintro e w2 ⟨v, rfl, hown, hb2⟩
  have hbel := hb1.trans (hb2.mono hb1.size)
  have hLlen := Dec.all_len bs
  have hgood := Lib.hid (Dec.all_good bs)
  have hagain := Lib.hid (sameB_eq (Dec.all_again bs))
  obtain ⟨L, hL⟩ : ∃ L, Dec.allL bs = L := ⟨_, rfl⟩
  rw [hL] at hown hLlen hgood hagain
  have hri := Lib.hid (ints_of_own hown)
  obtain ⟨p2, c2, rfl⟩ := ints_form hri.out
  have hL2 : decide (bs.length < L.length) = false := by simp; omega
  clear hown hb2 hL
  go_wp2_with fail
  go_loopw [5] (fun i wr => Upto L.length w2 i wr) (fun i _ => L.length - (RowKit.intOf i).toNat)
  case atStart => exact ⟨rfl, 0, Nat.zero_le _, rfl⟩
  case round =>
    obtain ⟨rfl, k, hk, rfl⟩ := hrel
    by_cases hlt : k < L.length
    · obtain ⟨x, hx⟩ : ∃ x, L[k] = x := ⟨_, rfl⟩
      obtain ⟨b, off, rfl, hb, hc⟩ := ints_at hri.out (by omega)
      have hcell : w2.cell? ⟨b, off + k, none⟩ = some (.int .i64 x) := by rw [← hx]; exact hc k hlt
      have hg : Dec.goodB x = true := by rw [← hx]; exact hgood.out _ (List.getElem_mem hlt)
      have hg := Lib.hid hg
      clear hc hx
      go_wp2_with fail
      refine (good_any x w2).mono ?_
      rintro e w3 ⟨rfl, rfl⟩
      rw [hg.out]
      go_wp2_with fail
      go_roundw
      case rel => exact ⟨rfl, k + 1, by omega, by go_num⟩
      case measure => simp [RowKit.intOf]; omega
    · go_wp2_with fail
      refine (text_any _ L w2 (by omega) hri.out).mono ?_
      rintro e w3 ⟨rfl, hb3⟩
      have hbel2 := hbel.trans (hb3.mono hbel.size)
      have hri2 := Lib.hid (ints_below hri.out hb3)
      obtain ⟨s, hs⟩ : ∃ s, (⟨(Dec.textL L).toArray⟩ : ByteArray) = s := ⟨_, rfl⟩
      rw [hs]
      have hsl : s.data.toList = Dec.textL L := by rw [← hs]
      have hsl := Lib.hid hsl
      have hwb := worldB_below w3 s
      have hT3 := Lib.hid (Utf8Tabs_below (Utf8Tabs_below hT'.out hbel2) hwb)
      have hrb := Lib.hid (bytes_cast (worldB_reads w3 s) hsl.out)
      have hbel3 := hbel2.trans (hwb.mono hbel2.size)
      have hri3 := Lib.hid (ints_below hri2.out hwb)
      have htl := Dec.textL_len L
      clear hs hb3 hwb
      go_wp2_with fail
      refine (all_any _ _ _ hT3.out (by omega) hrb.out).mono ?_
      rintro e w4 ⟨v4, rfl, hown4, hb4⟩
      have hri4 := Lib.hid (ints_below hri3.out hb4)
      have hri5 := Lib.hid (ints_of_own hown4)
      have hbel4 := hbel3.trans (hb4.mono hbel3.size)
      have hl4 : (Dec.allL (Dec.textL L)).length ≤ 100000 := by have := Dec.all_len (Dec.textL L); omega
      have hl4 := Lib.hid hl4
      clear hown4 hb4 htl
      go_wp2_with fail
      refine (same_any _ _ _ _ w4 hl4.out hri5.out hri4.out).mono ?_
      rintro e w5 ⟨rfl, n5, rfl⟩
      rw [hagain.out]
      go_wp2_with fail
      go_ret
      exact ⟨rfl, hbel4.trans ((drewN_below _ _).mono hbel4.size)⟩

theorem decGood_walk (v : Value) (bs : List UInt8) (w : World) (hT : Lib.Utf8Tabs 0 1 w) (hr : RBytes w v bs) :
    Calls Tryd.prog 6 #[v] w fun e w' => e = .returned (.bool true) ∧ Below w.heap.size w w' := by
  obtain ⟨p, cap, rfl⟩ := bytes_form hr
  by_cases hl : bs.length ≤ 300
  · exact decGood_short p cap bs w hT hl hr
  · exact decGood_long p _ cap w hT (by omega)

end Go.Proofs.YthpgoknenhppmaaDoor
