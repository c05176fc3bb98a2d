/- Layer 6: the document's example. -/
import Derived.Test.YtapmgakndndbkaaCaA4
namespace Go.Proofs.Ytapmgakndndbkaa
open Go.RowKit Go.Lib

theorem fold_of (r : Int) (l : List Int) (h : Cas.foldI r = l) (hr : -9223372036854775808 ≤ r ∧ r ≤ 9223372036854775807) (w : World) : Calls Try.prog 9 #[.int .i64 r] w (Makes l w) := h ▸ fold_any r w hr.1 hr.2
theorem all_of (v : Value) (l m : List Int) (w : World) (h : Cas.allI l = m) (hl : l.length ≤ 1000000) (hv : RI w v l) (hwf : ∀ x ∈ l, -9223372036854775808 ≤ x ∧ x ≤ 9223372036854775807) : Calls Try.prog 11 #[v] w (Makes m w) := h ▸ all_any v l w hl hv hwf

set_option maxHeartbeats 1600000 in
theorem awake6 (w : World) :
    Calls Try.prog 7 #[] w fun e w' => e = .returned (.bool true) ∧ Below w.heap.size w w' := by
  go_enter Try.func7, Try.ntmps7
  go_wp2_with fail
  refine (fold_of 65 [97] (by decide +kernel) (by omega) _).mono ?_
  rintro e w1 ⟨v, rfl, hv, hb1⟩
  obtain ⟨b, cap, rfl, hB, hlt, hcell⟩ := ownI_open hv (by simp)
  have c0 := hcell 0 (by simp)
  clear hcell hv
  replace c0 := Lib.hid c0
  replace hb1 := Lib.hid hb1
  have hr := Lib.hid (ri_of_own (ownI_lit w.heap.size w1 [223, 66] #[.int .i64 223, .int .i64 66] w1.heap.size 2 rfl hb1.out.size rfl rfl (by unfold maxLen; omega)))
  have hb2 := Lib.hid (hb1.out.alloc hb1.out.size (.cells #[.int .i64 223, .int .i64 66] 3))
  go_wp2_with fail
  refine (all_of _ [223, 66] [115, 115, 98] _ (by decide +kernel) (by simp) hr.out (by decide)).mono ?_
  rintro e w2 ⟨v, rfl, hv, hb3⟩
  obtain ⟨b2, cap2, rfl, hB2, hlt2, hcell⟩ := ownI_open hv (by simp)
  have d1 := hcell 1 (by simp)
  have d2 := hcell 2 (by simp)
  replace c0 : w2.cell? ⟨b, 0, none⟩ = some (.int .i64 97) := by
    rw [hb3.cell (by simp; omega)]
    exact (((Below.refl _ w1).alloc (Nat.le_refl _) (.cells #[.int .i64 223, .int .i64 66] 3)).cell hlt).trans c0.out
  replace d1 : w2.cell? ⟨b2, 1, none⟩ = some (.int .i64 115) := d1
  replace d2 : w2.cell? ⟨b2, 2, none⟩ = some (.int .i64 98) := d2
  clear hcell hv hr
  replace hb3 := Lib.hid (below_on hb2.out hb3)
  go_wp2_with fail
  go_ret
  exact ⟨rfl, hb3.out⟩

end Go.Proofs.Ytapmgakndndbkaa
