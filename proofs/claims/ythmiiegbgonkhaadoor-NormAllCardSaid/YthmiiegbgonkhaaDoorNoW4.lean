/- Layer 9: the walk of NormAll. -/
import Derived.Test.YthmiiegbgonkhaaDoorNoW0
import Derived.Test.YthmiiegbgonkhaaDoorNfW0
namespace Go.Proofs.YthmiiegbgonkhaaDoor
set_option linter.unusedSimpArgs false
set_option linter.unusedVariables false
open Go.RowKit Go.Lib

set_option maxHeartbeats 3200000 in
set_option maxRecDepth 100000 in
theorem normAll_walk (hS : SaneC9) (hF : FeedC9) (hE : EndC9) (hA : AllC9) (hK : NfkcC) (v : Value) (l : List Int) (w : World) (hv : RI w v l ∧ WfI l) :
    Calls Tryd.prog 3 #[v] w fun e w' => e = .returned (.bool true) ∧ Below w.heap.size w w' := by
  obtain ⟨hri, hwf⟩ := hv
  obtain ⟨p, cap, rfl⟩ := ri_form hri
  have hawake := Lib.hid (awake9 hS hF hE)
  replace hri := Lib.hid hri
  by_cases hl : l.length ≤ 100
  · have hl' : decide (100 < l.length) = false := decide_eq_false (by omega)
    have hl2 : ¬ (100 : Int) < (l.length : Int) := by omega
    have n1 := nfkc_len l
    have hall := fun W h => all_of9 hA (v := .slice p l.length cap) (w := W) (Nor.all_form l) (by omega) h
    have hnf := fun W h => nfkc_of hK (v := .slice p l.length cap) (l := l) (w := W) rfl (by omega) hwf h
    obtain ⟨C, hC⟩ : ∃ C, Nfk.nfkcI l = C := ⟨_, rfl⟩
    rw [hC] at hall hnf n1
    replace hall := Lib.hid hall
    replace hnf := Lib.hid hnf
    have n2 : C.length ≤ 800 := by omega
    clear hC hwf n1 hS hF hE hA hK
    go_enter Tryd.func3, Tryd.ntmps3
    go_wp2_with fail
    refine (hawake.out _).mono ?_
    rintro e w1 ⟨rfl, q1⟩
    replace hri := Lib.hid (ri_below hri.out q1)
    have b1 := Lib.hid q1
    clear q1
    go_wp2_with fail
    refine (hall.out _ hri.out).mono ?_
    rintro e w2 ⟨v_a, rfl, a, q2⟩
    replace a := Lib.hid a
    replace hri := Lib.hid (ri_below hri.out q2)
    have b2 := Lib.hid (below_on b1.out q2)
    clear q2
    go_wp2_with fail
    refine (hnf.out _ hri.out).mono ?_
    rintro e w3 ⟨v_c, rfl, c, q3⟩
    replace c := Lib.hid c
    replace hri := Lib.hid (ri_below hri.out q3)
    replace a := Lib.hid (ri_below a.out q3)
    have b3 := Lib.hid (below_on b2.out q3)
    clear q3
    go_wp2_with fail
    refine (same_self _ _ C _ (by omega) a.out c.out).mono ?_
    rintro e w4 ⟨rfl, q4⟩
    replace hri := Lib.hid (ri_below hri.out q4)
    replace a := Lib.hid (ri_below a.out q4)
    replace c := Lib.hid (ri_below c.out q4)
    have b4 := Lib.hid (below_on b3.out q4)
    clear q4
    go_wp2_with fail
    go_ret
    exact ⟨rfl, b4.out⟩
  · have hl' : decide (100 < l.length) = true := decide_eq_true (by omega)
    have hl2 : (100 : Int) < (l.length : Int) := by omega
    clear hwf hS hF hE hA hK
    go_enter Tryd.func3, Tryd.ntmps3
    go_wp2_with fail
    refine (hawake.out _).mono ?_
    rintro e w1 ⟨rfl, q1⟩
    replace hri := Lib.hid (ri_below hri.out q1)
    have b1 := Lib.hid q1
    clear q1
    go_wp2_with fail
    go_ret
    exact ⟨rfl, b1.out⟩

end Go.Proofs.YthmiiegbgonkhaaDoor
