/-
  No cell of these rows narrows 'for every input' (looked for: loops, veiled, ifaces, maps, wideKeys, modest, calm, conditions, laid).
  DERIVED. THE GIVEN ROWS OF THIS SEAT. 4 by the template 'for every input the law returns true; each argument reads behind the call as it read before'; 0 by the template 'total and deterministic' (their statements: YtoppdemblchidaaTotals.lean).
  GIVEN WITH THE SEED: the statements are not yours to turn. If you find one false, say at which input.
  Laid BY PROGRAM, IN A SANDBOX (cutbox-rows.mjs): the forced cells as the released guide's own fill.sh prints them over the translation 5a43bdbd50e47790… (all of the seat's roots in one cut). By AI agents, Wed Nov 11 2026. No macro, syntax, notation, axiom, sorry.
-/
import Derived.Test.YtoppdemblchidaaChecked
import GoSem.Claim
import GoSem.ClaimJoined
import GoSem.ClaimMapViews
import Derived.JoinedTies
import Derived.KernelRfl
namespace Go.Proofs.Ytoppdemblchidaa
/- THE CELL 'sum', in the pinned program and in every row, IS THE sha256 OF THE DUMP (.gsa) THAT YtoppdemblchidaaProg.lean LOADS. Nothing in Lean hashes anything: it is a label: what it is worth is what the hold of that sum in a sandbox is worth. -/
noncomputable def Try.pinned : Pinned := { name := "ytoppdemblchidaa", sum := "5a43bdbd50e47790091acbe113b661d516dd156549aed850d6f3d4992d3672bc", checked := Try.checked }
namespace Rows
def none {H : Type} : Left H := { results := [], args := [] }

/-- 'pentroughlaw04.DecompIs': WHATEVER THE INPUT: true; the input reads as it did. -/
def decompIsSpec : ChangeSpec := { name := "decompIs", fn := fun _ => fun
  | [d] => { results := [.lit (.bool true)], args := [d] }
  | _ => none }
def decompIsRow : OpenClaim := { program := "ytoppdemblchidaa", sum := "5a43bdbd50e47790091acbe113b661d516dd156549aed850d6f3d4992d3672bc", func := "pentrough/pentroughlaw04.DecompIs", spec := "decompIs", inPlace := ["internal/bytealg.IndexByteString"], unfollowed := true, recurses := true, apart := false }
def DecompIsSaid : Prop := decompIsRow.holds Try.pinned (OpenSpec.ofChange decompIsSpec)

/-- ITS FALSE NEIGHBOUR: 'it returns false'. Refute it at one input. -/
def decompIsWrong : ChangeSpec := { name := "decompIs", fn := fun _ => fun
  | [d] => { results := [.lit (.bool false)], args := [d] }
  | _ => none }
def DecompIsWrongFalsely : Prop := decompIsRow.holds Try.pinned (OpenSpec.ofChange decompIsWrong)

/-- 'pentroughlaw04.DecompOnce': WHATEVER THE INPUT: true; the input reads as it did. -/
def decompOnceSpec : ChangeSpec := { name := "decompOnce", fn := fun _ => fun
  | [d] => { results := [.lit (.bool true)], args := [d] }
  | _ => none }
def decompOnceRow : OpenClaim := { program := "ytoppdemblchidaa", sum := "5a43bdbd50e47790091acbe113b661d516dd156549aed850d6f3d4992d3672bc", func := "pentrough/pentroughlaw04.DecompOnce", spec := "decompOnce", inPlace := ["internal/bytealg.IndexByteString"], unfollowed := true, recurses := true, apart := false }
def DecompOnceSaid : Prop := decompOnceRow.holds Try.pinned (OpenSpec.ofChange decompOnceSpec)

/-- ITS FALSE NEIGHBOUR: 'it returns false'. Refute it at one input. -/
def decompOnceWrong : ChangeSpec := { name := "decompOnce", fn := fun _ => fun
  | [d] => { results := [.lit (.bool false)], args := [d] }
  | _ => none }
def DecompOnceWrongFalsely : Prop := decompOnceRow.holds Try.pinned (OpenSpec.ofChange decompOnceWrong)

/-- 'pentroughlaw04.DecompSyllables': WHATEVER THE INPUT: true; the input reads as it did. -/
def decompSyllablesSpec : ChangeSpec := { name := "decompSyllables", fn := fun _ => fun
  | [d1, d2, d3] => { results := [.lit (.bool true)], args := [d1, d2, d3] }
  | _ => none }
def decompSyllablesRow : OpenClaim := { program := "ytoppdemblchidaa", sum := "5a43bdbd50e47790091acbe113b661d516dd156549aed850d6f3d4992d3672bc", func := "pentrough/pentroughlaw04.DecompSyllables", spec := "decompSyllables", inPlace := ["internal/bytealg.IndexByteString"], unfollowed := true, recurses := true, apart := false }
def DecompSyllablesSaid : Prop := decompSyllablesRow.holds Try.pinned (OpenSpec.ofChange decompSyllablesSpec)

/-- ITS FALSE NEIGHBOUR: 'it returns false'. Refute it at one input. -/
def decompSyllablesWrong : ChangeSpec := { name := "decompSyllables", fn := fun _ => fun
  | [d1, d2, d3] => { results := [.lit (.bool false)], args := [d1, d2, d3] }
  | _ => none }
def DecompSyllablesWrongFalsely : Prop := decompSyllablesRow.holds Try.pinned (OpenSpec.ofChange decompSyllablesWrong)

/-- 'pentroughlaw04.DecompWide': WHATEVER THE INPUT: true; the input reads as it did. -/
def decompWideSpec : ChangeSpec := { name := "decompWide", fn := fun _ => fun
  | [d] => { results := [.lit (.bool true)], args := [d] }
  | _ => none }
def decompWideRow : OpenClaim := { program := "ytoppdemblchidaa", sum := "5a43bdbd50e47790091acbe113b661d516dd156549aed850d6f3d4992d3672bc", func := "pentrough/pentroughlaw04.DecompWide", spec := "decompWide", inPlace := ["internal/bytealg.IndexByteString"], unfollowed := true, recurses := true, apart := false }
def DecompWideSaid : Prop := decompWideRow.holds Try.pinned (OpenSpec.ofChange decompWideSpec)

/-- ITS FALSE NEIGHBOUR: 'it returns false'. Refute it at one input. -/
def decompWideWrong : ChangeSpec := { name := "decompWide", fn := fun _ => fun
  | [d] => { results := [.lit (.bool false)], args := [d] }
  | _ => none }
def DecompWideWrongFalsely : Prop := decompWideRow.holds Try.pinned (OpenSpec.ofChange decompWideWrong)

/- THE SECOND FORM. 'bulk': how many values and letters a reading holds, each counted each time it is reached (what is shared counts as often as it is met; a slice's spare places count too). A statement '..UptoSaid' is the law's where the arguments, and the package variables that the reading takes, are together of bulk at most 1048576: NARROWER than '..Said'. Prove '..Said' where nothing that the law and all that it calls make is longer than what came in: it says more and counts as full. Else prove '..UptoSaid'. A law counts once. -/
mutual
def uptoBulk {H : Type} : DataW H → Nat
  | .lit (.string bytes) => bytes.length + 1
  | .lit _ => 1
  | .nil => 1
  | .ptr d => uptoBulk d + 1
  | .slice elems spare => uptoBulkAll elems + uptoBulkAll spare + 1
  | .agg parts => uptoBulkAll parts + 1
  | .iface _ d => uptoBulk d + 1
  | .map entries => uptoBulkEntries entries + 1
  | .held _ => 1
def uptoBulkAll {H : Type} : List (DataW H) → Nat
  | [] => 0
  | d :: r => uptoBulk d + uptoBulkAll r
def uptoBulkEntries {H : Type} : List (Lit × DataW H) → Nat
  | [] => 0
  | x :: r => uptoBulkEntry x + uptoBulkEntries r
def uptoBulkEntry {H : Type} : Lit × DataW H → Nat
  | (.string bytes, d) => bytes.length + uptoBulk d + 1
  | (_, d) => uptoBulk d + 1
 end
def uptoSmall : (H : Type) → List (DataW H) → Bool := fun _ ds => decide (uptoBulkAll ds ≤ 1048576)
def OpenSpec.upto (s : _root_.Go.ChangeSpec) : _root_.Go.OpenSpec := { _root_.Go.OpenSpec.ofChange s with cond := some uptoSmall }

/-- 'pentroughlaw04.DecompIs', WHERE WHAT IT READS IS OF BULK AT MOST 1048576: true; the input reads as it did. -/
def decompIsUptoRow : OpenClaim := { program := "ytoppdemblchidaa", sum := "5a43bdbd50e47790091acbe113b661d516dd156549aed850d6f3d4992d3672bc", func := "pentrough/pentroughlaw04.DecompIs", spec := "decompIs", inPlace := ["internal/bytealg.IndexByteString"], unfollowed := true, recurses := true, apart := false, narrowed := true }
def DecompIsUptoSaid : Prop := decompIsUptoRow.holds Try.pinned (OpenSpec.upto decompIsSpec)

/-- 'pentroughlaw04.DecompOnce', WHERE WHAT IT READS IS OF BULK AT MOST 1048576: true; the input reads as it did. -/
def decompOnceUptoRow : OpenClaim := { program := "ytoppdemblchidaa", sum := "5a43bdbd50e47790091acbe113b661d516dd156549aed850d6f3d4992d3672bc", func := "pentrough/pentroughlaw04.DecompOnce", spec := "decompOnce", inPlace := ["internal/bytealg.IndexByteString"], unfollowed := true, recurses := true, apart := false, narrowed := true }
def DecompOnceUptoSaid : Prop := decompOnceUptoRow.holds Try.pinned (OpenSpec.upto decompOnceSpec)

/-- 'pentroughlaw04.DecompSyllables', WHERE WHAT IT READS IS OF BULK AT MOST 1048576: true; the input reads as it did. -/
def decompSyllablesUptoRow : OpenClaim := { program := "ytoppdemblchidaa", sum := "5a43bdbd50e47790091acbe113b661d516dd156549aed850d6f3d4992d3672bc", func := "pentrough/pentroughlaw04.DecompSyllables", spec := "decompSyllables", inPlace := ["internal/bytealg.IndexByteString"], unfollowed := true, recurses := true, apart := false, narrowed := true }
def DecompSyllablesUptoSaid : Prop := decompSyllablesUptoRow.holds Try.pinned (OpenSpec.upto decompSyllablesSpec)

/-- 'pentroughlaw04.DecompWide', WHERE WHAT IT READS IS OF BULK AT MOST 1048576: true; the input reads as it did. -/
def decompWideUptoRow : OpenClaim := { program := "ytoppdemblchidaa", sum := "5a43bdbd50e47790091acbe113b661d516dd156549aed850d6f3d4992d3672bc", func := "pentrough/pentroughlaw04.DecompWide", spec := "decompWide", inPlace := ["internal/bytealg.IndexByteString"], unfollowed := true, recurses := true, apart := false, narrowed := true }
def DecompWideUptoSaid : Prop := decompWideUptoRow.holds Try.pinned (OpenSpec.upto decompWideSpec)

end Rows
end Go.Proofs.Ytoppdemblchidaa
