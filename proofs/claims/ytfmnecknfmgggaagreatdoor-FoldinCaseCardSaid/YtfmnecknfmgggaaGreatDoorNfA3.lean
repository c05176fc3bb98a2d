/- Layer 8: the code's Nfkd, Nfkc, Is. -/
import Derived.Test.YtfmnecknfmgggaaGreatDoorNfA2
import Derived.Test.YtfmnecknfmgggaaGreatDoorCnP
namespace Go.Proofs.YtfmnecknfmgggaaGreatDoor
set_option linter.unusedSimpArgs false
set_option linter.unusedVariables false
open Go.RowKit Go.Lib

theorem told_next {l : List Int} {w w1 w2 : World} {e : Ending} (hb : Below w.heap.size w w1) (h : Told l w1 e w2) : Told l w e w2 := by
  obtain ⟨v, rfl, hv, h2⟩ := h
  exact ⟨v, rfl, hv, below_on hb h2⟩

set_option maxHeartbeats 1600000 in
set_option maxRecDepth 100000 in
theorem nfkdC : NfkdC := by
  intro v l w hl hv hwf
  have h1 := madeC v l w hl hv hwf
  have hl1 := made_lenN l
  have hl2 := safe_lenN (Nfk.madeI l)
  have hd : Nfk.nfkdI l = Can.orderI (Nfk.safeI (Nfk.madeI l) 0) := rfl
  rw [hd]
  have h2 := fun v' W h => safe_any8 v' (Nfk.madeI l) W (by omega) h
  have h3 := fun v' W h => order_any7 v' (Nfk.safeI (Nfk.madeI l) 0) W (by omega) h
  obtain ⟨p, cap, rfl⟩ := ri_form hv
  replace h1 := Lib.hid h1
  replace h2 := Lib.hid h2
  replace h3 := Lib.hid h3
  clear hd hl1 hl2
  go_enter Tryz.func48, Tryz.ntmps48
  go_wp2_with fail
  refine h1.out.mono ?_
  rintro e w1 ⟨v1, rfl, r1, b1⟩
  replace b1 := Lib.hid b1
  replace r1 := Lib.hid r1
  go_wp2_with fail
  refine (h2.out _ _ r1.out).mono ?_
  rintro e w2 ⟨v2, rfl, r2, b2⟩
  replace b2 := Lib.hid (below_on b1.out b2)
  replace r2 := Lib.hid r2
  go_wp2_with fail
  refine (h3.out _ _ r2.out).mono ?_
  rintro e w3 ⟨v3, rfl, r3, b3⟩
  replace b3 := Lib.hid (below_on b2.out b3)
  replace r3 := Lib.hid r3
  go_wp2_with fail
  go_ret
  exact ⟨_, rfl, r3.out, b3.out⟩

set_option maxHeartbeats 1600000 in
set_option maxRecDepth 100000 in
theorem nfkcC : NfkcC := by
  intro v l w hl hv hwf
  have h1 := nfkdC v l w hl hv hwf
  have hl1 := nfkd_len l
  have hd : Nfk.nfkcI l = Can.composeI (Nfk.nfkdI l) := rfl
  rw [hd]
  have h2 := fun v' W h => compose_any7 joinYes joinNot v' (Nfk.nfkdI l) W (by omega) h
  obtain ⟨p, cap, rfl⟩ := ri_form hv
  replace h1 := Lib.hid h1
  replace h2 := Lib.hid h2
  clear hd hl1
  go_enter Tryz.func28, Tryz.ntmps28
  go_wp2_with fail
  refine h1.out.mono ?_
  rintro e w1 ⟨v1, rfl, r1, b1⟩
  replace b1 := Lib.hid b1
  replace r1 := Lib.hid r1
  go_wp2_with fail
  refine (h2.out _ _ r1.out).mono ?_
  rintro e w2 ⟨v2, rfl, r2, b2⟩
  replace b2 := Lib.hid (below_on b1.out b2)
  replace r2 := Lib.hid r2
  go_wp2_with fail
  go_ret
  exact ⟨_, rfl, r2.out, b2.out⟩

set_option maxHeartbeats 1600000 in
set_option maxRecDepth 100000 in
theorem formC : FormC := by
  intro v l w hl hv hwf
  have h1 := nfkcC v l w hl hv hwf
  have hl1 := nfkc_len l
  have h2 := fun v1 v2 W a b => equal_any v1 v2 (Nfk.nfkcI l) l W (by omega) a b
  obtain ⟨p, cap, rfl⟩ := ri_form hv
  obtain ⟨c, hc⟩ : ∃ c, sameB (Nfk.nfkcI l) l = c := ⟨_, rfl⟩
  rw [hc] at h2 ⊢
  replace hv := Lib.hid hv
  replace h1 := Lib.hid h1
  replace h2 := Lib.hid h2
  clear hc hl1
  go_enter Tryz.func14, Tryz.ntmps14
  go_wp2_with fail
  refine h1.out.mono ?_
  rintro e w1 ⟨v1, rfl, r1, b1⟩
  have r0 := Lib.hid (ri_below hv.out b1)
  replace b1 := Lib.hid b1
  replace r1 := Lib.hid r1
  go_wp2_with fail
  refine (h2.out _ _ _ r1.out r0.out).mono ?_
  rintro e w2 ⟨rfl, n, rfl⟩
  have b2 := Lib.hid (below_on b1.out (drewN_below w1 n))
  go_wp2_with fail
  go_ret
  exact ⟨rfl, b2.out⟩

end Go.Proofs.YtfmnecknfmgggaaGreatDoor
