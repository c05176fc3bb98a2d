/- Layer 4: the document's own table and answers. -/
import Derived.Test.YtoppdemblchidaaG2
import Derived.Test.YtoppdemblchidaaDeM
import Derived.Deep.LoopGhost
import Derived.Deep.DeepCutAuto
import Derived.KernelRfl
namespace Go.Proofs.Ytoppdemblchidaa
open Go.RowKit Go.Lib

noncomputable def tabCode (S : ByteArray) : Code :=
  ((Go.Code.region 0 #[{ dst := some 0, op := Go.Op.assign (Go.Operand.const (Go.Value.string { data := #[] })), type := 9, pos := "ref.go:5", after := #[], guard := none }] false).seq ((Go.Code.region 1 #[{ dst := some 0, op := Go.Op.assign (Go.Operand.const (Go.Value.string S)), type := 9, pos := "ref.go:6", after := #[], guard := none }] false).seq Go.Code.ret))

/-- the document's own text -/
noncomputable def tabS : ByteArray :=
  match Try.f21.body with
  | some (.seq _ (.seq (.region _ ops _) _)) => (match ops[0]? with
    | some o => (match o.op with | .assign (.const (.string s)) => s | _ => ⟨#[]⟩)
    | none => ⟨#[]⟩)
  | _ => ⟨#[]⟩

theorem tabCode_is : Try.f21.body = some (tabCode tabS) := by kernel_rfl

theorem tabS_rows : Lk.rows tabS.data.toList [] 0 = Dcp.T := by decide +kernel
theorem tabS_size : tabS.size ≤ 100000 := by decide +kernel

theorem table_any (w : World) :
    Calls Try.prog 21 #[] w fun e w' => e = .returned (.string tabS) ∧ w = w' := by
  have hcode := tabCode_is
  obtain ⟨S, hS⟩ : ∃ S, tabS = S := ⟨_, rfl⟩
  rw [hS] at hcode ⊢
  replace hS := Lib.hid hS
  refine calls_of_wp Try.func21 hcode ?_
  clear hcode
  unfold tabCode
  simp only [Try.ntmps21, List.size_toArray, List.length_cons, List.length_nil, Nat.reduceAdd, Nat.reduceSub, Array.replicate_succ,
     Array.replicate_zero, List.push_toArray, List.append_toArray, List.nil_append, List.cons_append]
  go_wp2_with fail
  go_ret
  exact ⟨rfl, rfl⟩

theorem digit_any (c : UInt8) (w : World) :
    Calls Try.prog 28 #[.int .u8 (c.toNat : Int)] w fun e w' => e = .returned (.int .i64 (Lk.digit c)) ∧ w = w' := by
  have hc := c.toNat_lt
  obtain ⟨n, hn⟩ : ∃ n : Nat, c.toNat = n := ⟨_, rfl⟩
  unfold Lk.digit
  rw [hn] at hc ⊢
  clear hn
  have hn0 : (n : Int) < 256 := by omega
  by_cases h : 65 ≤ n
  · have h' : 65 ≤ (n : Int) := by omega
    rw [if_pos h]
    go_enter Try.func28, Try.ntmps28
    go_wp2_with fail
    go_ret
    exact ⟨rfl, rfl⟩
  · have h' : decide (65 ≤ (n : Int)) = false := by simp; omega
    rw [if_neg h]
    go_enter Try.func28, Try.ntmps28
    go_wp2_with fail
    go_ret
    exact ⟨rfl, rfl⟩

end Go.Proofs.Ytoppdemblchidaa
