/- Layer 14: the document's example. -/
import Derived.Test.YtnlnkjaapdefiaaGreatDoorBasQ
import Derived.Test.YtnlnkjaapdefiaaGreatDoorBasP
import Derived.Lib.SlBytesConst
namespace Go.Proofs.YtnlnkjaapdefiaaGreatDoor
set_option linter.unusedSimpArgs false
set_option linter.unusedVariables false
open Go.RowKit Go.Lib
theorem Flw.ex_one : Flw.clustersI [69, 204, 129] = [[233]] := by decide +kernel
theorem Flw.ex_two : Flw.clustersI [97, 98] = [[97], [98]] := by decide +kernel
theorem Flw.ex_three : Flw.valuesI [97] = [97] := by decide +kernel
theorem Flw.ex_text : Dec.textL [233] = [195, 169] := by decide +kernel
theorem Flw.ex_frame : Flw.frameI [69, 204, 129] = [2, 195, 169] := by
  unfold Flw.frameI
  rw [Flw.ex_one, List.flatMap_cons, List.flatMap_nil, List.append_nil]
  obtain ⟨h, _⟩ := Frm.putF_some (c := [233]) (by simp) (by simp)
  rw [h, Flw.ex_text]
  unfold Frm.frameOf
  rw [Var.putN_small (by simp)]
  rfl
theorem bytes_lit (w : World) (l : List UInt8) (cs : Array Value) (n : Nat) (fr : Nat × Nat) (hcs : cs = (l.map fun c => Value.int .u8 (c.toNat : Int)).toArray) (hn : n = l.length) : RBytes (w.alloc (.cells cs 5 fr)) (.slice (some ⟨w.heap.size, 0, none⟩) n n) l := by
  subst hn
  refine .inr ⟨_, _, rfl, Nat.le_refl _, fun _ => ⟨_, 0, rfl, by simp, fun i hi => ?_⟩⟩
  rw [Nat.zero_add, World.cell?_alloc_mark]
  subst hcs
  simp [hi]
set_option maxHeartbeats 1600000 in
set_option maxRecDepth 100000 in
theorem awake14 (hV : ValuesC14) (hC : ClustersC14) (hF : FC14) (w : World) (hT : Tabs w) :
    Calls Tryz.prog 8 #[] w fun e w' => e = .returned (.bool true) ∧ Below w.heap.size w w' := by
  have h1 := fun V (W : World) t h => hF V [69, 204, 129] W t (Flw.small_of (by simp)) h
  have h2 := fun V (W : World) t h => hC V [97, 98] W t (Flw.small_of (by simp)) h
  have h3 := fun V (W : World) t h => hV V [97] W t (Flw.small_of (by simp)) h
  rw [Flw.ex_frame] at h1
  rw [Flw.ex_two] at h2
  rw [Flw.ex_three] at h3
  unfold ToldB at h1
  unfold ToldR at h2
  unfold Told at h3
  replace h1 := Lib.hid h1
  replace h2 := Lib.hid h2
  replace h3 := Lib.hid h3
  have kc := fun (W : World) (C : Array Value) (n c : Nat) => Lib.run_convert_bytes_const (P := Tryz.prog) W 22 5 C n c Tryz.underlying22 Tryz.underlying5
  have l0 := Lib.hid (bytes_lit w [69, 204, 129] #[.int .u8 69, .int .u8 204, .int .u8 129] 3 (3, 4) rfl rfl)
  have b0 := Lib.hid (below_new w (.cells #[.int .u8 69, .int .u8 204, .int .u8 129] 5 (3, 4)))
  have T0 := Lib.hid (tabs_next hT b0.out)
  clear hV hC hF hT
  go_enter Tryz.func8, Tryz.ntmps8
  go_wp2_with fail
  refine (h1.out _ _ T0.out l0.out).mono ?_
  rintro e w1 ⟨v1, rfl, r1, q1⟩
  replace b0 := Lib.hid (below_on b0.out q1)
  replace T0 := Lib.hid (tabs_next T0.out q1)
  have cv1 := run_toStr _ _ w1 r1
  have l1 := Lib.hid (bytes_lit w1 [97, 98] #[.int .u8 97, .int .u8 98] 2 (2, 3) rfl rfl)
  have b1 := Lib.hid (b0.out.alloc b0.out.size (.cells #[.int .u8 97, .int .u8 98] 5 (2, 3)))
  have T1 := Lib.hid (tabs_next T0.out (below_new w1 (.cells #[.int .u8 97, .int .u8 98] 5 (2, 3))))
  clear r1 q1 l0 b0 T0
  go_wp2_with fail
  refine (h2.out _ _ T1.out l1.out).mono ?_
  rintro e w2 ⟨v2, rfl, r2, q2⟩
  obtain ⟨p2, c2, rfl⟩ := rr_form r2
  replace b1 := Lib.hid (below_on b1.out q2)
  replace T1 := Lib.hid (tabs_next T1.out q2)
  have l2 := Lib.hid (bytes_lit w2 [97] #[.int .u8 97] 1 (1, 2) rfl rfl)
  have b2 := Lib.hid (b1.out.alloc b1.out.size (.cells #[.int .u8 97] 5 (1, 2)))
  have T2 := Lib.hid (tabs_next T1.out (below_new w2 (.cells #[.int .u8 97] 5 (1, 2))))
  clear r2 q2 l1 b1 T1 cv1
  go_wp2_with fail
  refine (h3.out _ _ T2.out l2.out).mono ?_
  rintro e w3 ⟨v3, rfl, r3, q3⟩
  obtain ⟨p3, c3, rfl⟩ := ri_form r3
  replace b2 := Lib.hid (below_on b2.out q3)
  clear r3 q3 l2 T2
  go_wp2_with fail
  go_ret
  exact ⟨rfl, b2.out⟩
end Go.Proofs.YtnlnkjaapdefiaaGreatDoor
