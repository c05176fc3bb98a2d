/- Layer 4: the document's example. -/
import Derived.Test.YtoppdemblchidaaDeA4
namespace Go.Proofs.Ytoppdemblchidaa
open Go.RowKit Go.Lib

theorem below_trans4 {w w1 w2 : World} (h1 : Below w.heap.size w w1) (h2 : Below w1.heap.size w1 w2) : Below w.heap.size w w2 := h1.trans (h2.mono h1.size)
theorem full_is (r : Int) (l : List Int) (h : Dcp.fullI r = l) (hr : -9223372036854775808 ≤ r ∧ r ≤ 9223372036854775807) (w : World) : Calls Try.prog 9 #[.int .i64 r] w (FullRes l w) := h ▸ full_any r hr w
theorem is_is (r : Int) (c : Bool) (h : isB r = c) (w : World) : Calls Try.prog 11 #[.int .i64 r] w fun e w' => e = .returned (.bool c) ∧ Below w.heap.size w w' := h ▸ is_any r w

set_option maxHeartbeats 1600000 in
theorem awake4 (w : World) :
    Calls Try.prog 7 #[] w fun e w' => e = .returned (.bool true) ∧ Below w.heap.size w w' := by
  go_enter Try.func7, Try.ntmps7
  go_wp2_with fail
  refine (full_is 233 [101, 769] (by decide +kernel) (by omega) _).mono ?_
  rintro e w1 ⟨v, rfl, hv, hb1⟩
  obtain ⟨b, cap, rfl, hB, hlt, hcell⟩ := ownI_open hv (by simp)
  have c0 := hcell 0 (by simp)
  have c1 := hcell 1 (by simp)
  clear hcell hv
  replace c0 := Lib.hid c0
  replace c1 := Lib.hid c1
  replace hb1 := Lib.hid hb1
  go_wp2_with fail
  refine (full_is 44033 [4352, 4449, 4520] (by decide +kernel) (by omega) _).mono ?_
  rintro e w2 ⟨v, rfl, hv, hb2⟩
  obtain ⟨b2, cap2, rfl, hB2, hlt2, hcell⟩ := ownI_open hv (by simp)
  have d2 := hcell 2 (by simp)
  replace c0 : w2.cell? ⟨b, 0, none⟩ = some (.int .i64 101) := by rw [hb2.cell hlt]; exact c0.out
  replace c1 : w2.cell? ⟨b, 1, none⟩ = some (.int .i64 769) := by rw [hb2.cell hlt]; exact c1.out
  replace d2 : w2.cell? ⟨b2, 2, none⟩ = some (.int .i64 4520) := d2
  clear hcell hv
  replace hb2 := Lib.hid (below_trans4 hb1.out hb2)
  go_wp2_with fail
  refine (is_is 233 true (by decide +kernel) _).mono ?_
  rintro e w3 ⟨rfl, hb3⟩
  replace hb3 := Lib.hid (below_trans4 hb2.out hb3)
  go_wp2_with fail
  refine (is_is 101 false (by decide +kernel) _).mono ?_
  rintro e w4 ⟨rfl, hb4⟩
  replace hb4 := Lib.hid (below_trans4 hb3.out hb4)
  go_wp2_with fail
  go_ret
  exact ⟨rfl, hb4.out⟩

end Go.Proofs.Ytoppdemblchidaa
