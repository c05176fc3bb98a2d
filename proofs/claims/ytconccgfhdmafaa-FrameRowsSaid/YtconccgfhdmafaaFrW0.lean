/- Layer 13: the document's example. -/
import Derived.Test.YtconccgfhdmafaaFrS
import Derived.OwnWalk
namespace Go.Proofs.Ytconccgfhdmafaa
set_option linter.unusedSimpArgs false
set_option linter.unusedVariables false
open Go.RowKit Go.Lib

theorem Frm.text_ex : Dec.textL [101, 769] = [101, 204, 129] := by decide +kernel
theorem Frm.put_ex : Frm.putF [101, 769] = [3, 101, 204, 129] := by
  obtain ⟨h, _⟩ := Frm.putF_some (c := [101, 769]) (by simp) (by simp)
  rw [h, Frm.text_ex]
  unfold Frm.frameOf
  rw [Var.putN_small (by simp)]
  rfl
theorem Frm.take_ex : Frm.takeF [3, 101, 204, 129] = ([101, 204, 129], 4, 0) := by
  have h := Frm.take_put (c := [101, 769]) (by simp) (by simp) []
  rw [List.append_nil, Frm.put_ex, Frm.text_ex] at h
  rw [h]
  rfl

set_option maxHeartbeats 1600000 in
set_option maxRecDepth 100000 in
theorem awake13 (hP : PutC13) (hT : TakeC13) (hR : RefC13) (w : World) :
    Calls Try.prog 8 #[] w fun e w' => e = .returned (.bool true) ∧ Below w.heap.size w w' := by
  have h1 := fun V (W : World) h => hP V [101, 769] W (by simp) h
  have h2 := fun V (W : World) h => hT V [3, 101, 204, 129] W (by simp) h
  rw [Frm.put_ex] at h1
  rw [Frm.take_ex] at h2
  unfold ToldB at h1
  unfold Took at h2
  unfold RefC13 ToldB at hR
  dsimp only at h2
  replace h1 := Lib.hid h1
  replace h2 := Lib.hid h2
  replace hR := Lib.hid hR
  have l0 := Lib.hid (ri_of_own (ownI_lit w.heap.size w [101, 769] #[.int .i64 101, .int .i64 769] w.heap.size 2 rfl (Nat.le_refl _) rfl rfl (by unfold maxLen; omega)))
  have b0 := Lib.hid (below_new w (.cells #[.int .i64 101, .int .i64 769] 3))
  clear hP hT
  go_enter Try.func8, Try.ntmps8
  go_wp2_with fail
  refine (h1.out _ _ l0.out).mono ?_
  rintro e w1 ⟨v, rfl, hv, q1⟩
  replace b0 := Lib.hid (below_on b0.out q1)
  obtain ⟨p, c, rfl⟩ := bytes_form hv
  simp only [List.length_cons, List.length_nil, Nat.zero_add, Nat.reduceAdd] at hv ⊢
  have hv1 := Lib.hid hv
  clear hv q1 l0
  go_wp2_with fail
  refine (h2.out _ _ hv1.out).mono ?_
  rintro e w2 ⟨vt, rfl, hvt, q2⟩
  replace b0 := Lib.hid (below_on b0.out q2)
  obtain ⟨pt, ct, rfl⟩ := bytes_form hvt
  simp only [List.length_cons, List.length_nil, Nat.zero_add, Nat.reduceAdd] at hvt ⊢
  have cv1 := run_toStr _ _ w2 (bytes_below hv1.out q2)
  have cv2 := run_toStr _ _ w2 hvt
  clear hvt q2 hv1
  go_wp2_with fail
  refine (hR.out _).mono ?_
  rintro e w3 ⟨v3, rfl, hv3, q3⟩
  replace b0 := Lib.hid (below_on b0.out q3)
  have cv3 := run_toStr _ _ w3 hv3
  clear hv3 q3 cv1 cv2
  go_wp2_with fail
  go_ret
  exact ⟨rfl, b0.out⟩

end Go.Proofs.Ytconccgfhdmafaa
