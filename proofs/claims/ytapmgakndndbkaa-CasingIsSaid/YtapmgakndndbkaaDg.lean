/- The document's Digit, of any layer that has it. -/
import Derived.Test.YtapmgakndndbkaaG0
import Derived.Test.YtapmgakndndbkaaLk
import Derived.KernelRfl
namespace Go.Proofs.Ytapmgakndndbkaa
open Go.RowKit Go.Lib

theorem digit_any (c : UInt8) (w : World) :
    Calls Try.prog 22 #[.int .u8 (c.toNat : Int)] w fun e w' => e = .returned (.int .i64 (Lk.digit c)) ∧ w = w' := by
  have hc := c.toNat_lt
  obtain ⟨n, hn⟩ : ∃ n : Nat, c.toNat = n := ⟨_, rfl⟩
  unfold Lk.digit
  rw [hn] at hc ⊢
  clear hn
  have hn0 : (n : Int) < 256 := by omega
  by_cases h : 65 ≤ n
  · have h' : 65 ≤ (n : Int) := by omega
    rw [if_pos h]
    go_enter Try.func22, Try.ntmps22
    go_wp2_with fail
    go_ret
    exact ⟨rfl, rfl⟩
  · have h' : decide (65 ≤ (n : Int)) = false := by simp; omega
    rw [if_neg h]
    go_enter Try.func22, Try.ntmps22
    go_wp2_with fail
    go_ret
    exact ⟨rfl, rfl⟩

end Go.Proofs.Ytapmgakndndbkaa
