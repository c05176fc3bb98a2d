/- Layer 4: the document's own table and answers. -/
import Derived.Test.YtfmnecknfmgggaaGreatDoorBasP
import Derived.Test.YtfmnecknfmgggaaGreatDoorMthP
import Derived.Test.YtfmnecknfmgggaaGreatDoorPaRP
import Derived.Deep.LoopGhost
import Derived.Deep.DeepCutAuto
import Derived.KernelRfl
namespace Go.Proofs.YtfmnecknfmgggaaGreatDoor
set_option linter.unusedSimpArgs false
set_option linter.unusedVariables false
open Go.RowKit Go.Lib

noncomputable def tabCode (S : ByteArray) : Code :=
  ((Go.Code.region 0 #[{ dst := some 0, op := Go.Op.assign (Go.Operand.const (Go.Value.string { data := #[] })), type := 9, pos := "ref.go:5", after := #[], guard := none }] false).seq ((Go.Code.region 1 #[{ dst := some 0, op := Go.Op.assign (Go.Operand.const (Go.Value.string S)), type := 9, pos := "ref.go:6", after := #[], guard := none }] false).seq Go.Code.ret))

/-- the document's own text -/
noncomputable def tabS : ByteArray :=
  match Tryz.f64.body with
  | some (.seq _ (.seq (.region _ ops _) _)) => (match ops[0]? with
    | some o => (match o.op with | .assign (.const (.string s)) => s | _ => ⟨#[]⟩)
    | none => ⟨#[]⟩)
  | _ => ⟨#[]⟩

theorem tabCode_is : Tryz.f64.body = some (tabCode tabS) := by kernel_rfl

theorem tabS_rows : Lk.rows tabS.data.toList [] 0 = Dcp.T := by decide +kernel
theorem tabS_size : tabS.size ≤ 100000 := by decide +kernel

theorem table_any (w : World) :
    Calls Tryz.prog 64 #[] w fun e w' => e = .returned (.string tabS) ∧ w = w' := by
  have hcode := tabCode_is
  obtain ⟨S, hS⟩ : ∃ S, tabS = S := ⟨_, rfl⟩
  rw [hS] at hcode ⊢
  replace hS := Lib.hid hS
  refine calls_of_wp Tryz.func64 hcode ?_
  clear hcode
  unfold tabCode
  simp only [Tryz.ntmps64, List.size_toArray, List.length_cons, List.length_nil, Nat.reduceAdd, Nat.reduceSub, Array.replicate_succ,
     Array.replicate_zero, List.push_toArray, List.append_toArray, List.nil_append, List.cons_append]
  go_wp2_with fail
  go_ret
  exact ⟨rfl, rfl⟩

end Go.Proofs.YtfmnecknfmgggaaGreatDoor
