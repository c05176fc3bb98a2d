/- Layer 4: a row of the code's text; a number read. -/
import Derived.Test.YtgahfbcdnbhikaaDoorG2
import Derived.Test.YtgahfbcdnbhikaaDoorDeX
import Derived.Test.YtgahfbcdnbhikaaDoorShelf
import Derived.Deep.LoopGhost
import Derived.Deep.DeepCutAuto
import Derived.KernelRfl
namespace Go.Proofs.YtgahfbcdnbhikaaDoor
open Go.RowKit Go.Lib

noncomputable def rowCode (S : ByteArray) : Code :=
  ((Go.Code.region 0 #[{ dst := some 2, op := Go.Op.assign (Go.Operand.const (Go.Value.string { data := #[] })), type := 9, pos := "decomp.go:81", after := #[], guard := none }] false).seq ((Go.Code.region 1 #[{ dst := some 3, op := Go.Op.move (Go.Operand.tmp 0), type := 3, pos := "decomp.go:81", after := #[], guard := none }, { dst := some 4, op := Go.Op.binOp Go.BinOp.mul 3 (Go.Operand.tmp 3) (Go.Operand.const (Go.Value.int Go.IntKind.i64 25)) 3, type := 3, pos := "decomp.go:81", after := #[{ on := 0, ground := Go.Ground.data }], guard := none }, { dst := some 5, op := Go.Op.move (Go.Operand.tmp 0), type := 3, pos := "decomp.go:81", after := #[], guard := none }, { dst := some 6, op := Go.Op.binOp Go.BinOp.add 3 (Go.Operand.tmp 5) (Go.Operand.const (Go.Value.int Go.IntKind.i64 1)) 3, type := 3, pos := "decomp.go:81", after := #[{ on := 2, ground := Go.Ground.data }], guard := none }, { dst := some 7, op := Go.Op.binOp Go.BinOp.mul 3 (Go.Operand.tmp 6) (Go.Operand.const (Go.Value.int Go.IntKind.i64 25)) 3, type := 3, pos := "decomp.go:81", after := #[{ on := 3, ground := Go.Ground.data }], guard := none }, { dst := some 8, op := Go.Op.slice 9 (Go.Operand.const (Go.Value.string S)) (some (Go.Operand.tmp 4)) (some (Go.Operand.tmp 7)) none, type := 9, pos := "decomp.go:81", after := #[{ on := 1, ground := Go.Ground.data }, { on := 4, ground := Go.Ground.data }], guard := none }, { dst := some 2, op := Go.Op.assign (Go.Operand.tmp 8), type := 9, pos := "decomp.go:81", after := #[{ on := 5, ground := Go.Ground.data }, { on := 0, ground := Go.Ground.phase }, { on := 1, ground := Go.Ground.phase }, { on := 2, ground := Go.Ground.phase }, { on := 3, ground := Go.Ground.phase }, { on := 4, ground := Go.Ground.phase }, { on := 5, ground := Go.Ground.phase }], guard := none }] false).seq Go.Code.ret))

/-- the code's own text -/
noncomputable def rowS : ByteArray :=
  match Tryd.f39.body with
  | some (.seq _ (.seq (.region _ ops _) _)) => (match ops[5]? with
    | some o => (match o.op with | .slice _ (.const (.string s)) _ _ _ => s | _ => ⟨#[]⟩)
    | none => ⟨#[]⟩)
  | _ => ⟨#[]⟩

theorem rowCode_is : Tryd.f39.body = some (rowCode rowS) := by kernel_rfl

theorem rowS_size : rowS.size = 9350 := by decide +kernel
theorem rowS_ok : Dcp.okAll rowS.data.toList Dcp.T = true := by decide +kernel

/-- row k of it -/
noncomputable def rowB (k : Nat) : ByteArray := rowS.extract (k * 25) ((k + 1) * 25)

theorem rowB_list (k : Nat) : (rowB k).data.toList = (rowS.data.toList.drop (k * 25)).take 25 := by
  unfold rowB
  rw [Lib.extract_data, show (k + 1) * 25 - k * 25 = 25 by omega]

theorem row_any (k : Nat) (hk : k < 374) (w : World) :
    Calls Tryd.prog 39 #[.int .i64 k] w fun e w' => e = .returned (.string (rowB k)) ∧ w = w' := by
  unfold rowB
  have hsz := rowS_size
  have hcode := rowCode_is
  obtain ⟨S, hS⟩ : ∃ S, rowS = S := ⟨_, rfl⟩
  rw [hS] at hsz hcode ⊢
  replace hS := Lib.hid hS
  refine calls_of_wp Tryd.func39 hcode ?_
  clear hcode
  unfold rowCode
  simp only [Tryd.ntmps39, List.size_toArray, List.length_cons, List.length_nil, Nat.reduceAdd, Nat.reduceSub, Array.replicate_succ,
     Array.replicate_zero, List.push_toArray, List.append_toArray, List.nil_append, List.cons_append]
  go_wp2_with fail
  go_ret
  exact ⟨rfl, rfl⟩

end Go.Proofs.YtgahfbcdnbhikaaDoor
