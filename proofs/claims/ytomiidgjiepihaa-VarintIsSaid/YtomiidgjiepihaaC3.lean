/- Layer 2: the document's example. -/
import Derived.Test.YtomiidgjiepihaaC2
namespace Go.Proofs.Ytomiidgjiepihaa
open Go.RowKit Go.Lib

theorem take_ex : Var.takeL [172, 2, 9] = (300, 2, 0) := by decide
theorem put_ex : Var.putI 300 = [172, 2] := by
  unfold Var.putI
  rw [if_pos (by decide), show (300 : Int).toNat = 300 from rfl, Var.putN_big (by decide), Var.putN_small (by decide)]
  rfl

theorem bytes_new3 (w : World) (a b c : UInt8) : RBytes (w.alloc (.cells #[.int .u8 (a.toNat : Int), .int .u8 (b.toNat : Int), .int .u8 (c.toNat : Int)] 5)) (.slice (some ⟨w.heap.size, 0, none⟩) 3 3) [a, b, c] := by
  refine .inr ⟨⟨w.heap.size, 0, none⟩, 3, rfl, Nat.le_refl _, fun _ => ⟨w.heap.size, 0, rfl, by simp, ?_⟩⟩
  intro i hi
  have : i < 3 := hi
  rcases (by omega : i = 0 ∨ i = 1 ∨ i = 2) with rfl | rfl | rfl <;> simp

set_option maxHeartbeats 800000 in
theorem awake_any (w : World) :
    Calls Try.prog 8 #[] w fun e w' => e = .returned (.bool true) ∧ Below w.heap.size w w' := by
  go_enter Try.func8, Try.ntmps8
  go_wp2_with fail
  refine (take_any _ _ _ (bytes_new3 w 172 2 9)).mono ?_
  rintro e w1 ⟨rfl, rfl⟩
  rw [take_ex]
  go_wp2_with fail
  refine (put_any 300 _).mono ?_
  rintro e w1 ⟨v, rfl, hown, hb⟩
  rw [put_ex] at hown
  have hcv := run_toStr v _ w1 (bytes_of_own hown)
  have hbel := Lib.hid (below_in hb)
  clear hown hb
  go_wp2_with fail
  refine (size_any 300 _).mono ?_
  rintro e w2 ⟨rfl, rfl⟩
  rw [put_ex]
  go_wp2_with fail
  go_ret
  exact ⟨rfl, hbel.out⟩
end Go.Proofs.Ytomiidgjiepihaa
