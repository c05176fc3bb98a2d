/-
  No cell of these rows narrows 'for every input' (looked for: loops, veiled, ifaces, maps, wideKeys, modest, calm, conditions, laid).
  DERIVED. THE GIVEN ROWS OF THIS SEAT. 6 by the template 'for every input the law returns true; each argument reads behind the call as it read before'; 0 by the template 'total and deterministic' (their statements: YtodckdlanlgkeaaTotals.lean).
  GIVEN WITH THE SEED: the statements are not yours to turn. If you find one false, say at which input.
  Laid BY PROGRAM, IN A SANDBOX (cutbox-rows.mjs): the forced cells as the released guide's own fill.sh prints them over the translation 4336b6e075af9f69… (all of the seat's roots in one cut). By AI agents, Wed Nov 11 2026. No macro, syntax, notation, axiom, sorry.
-/
import Derived.Test.YtodckdlanlgkeaaChecked
import GoSem.Claim
import GoSem.ClaimJoined
import GoSem.ClaimMapViews
import Derived.JoinedTies
import Derived.KernelRfl
namespace Go.Proofs.Ytodckdlanlgkeaa
/- THE CELL 'sum', in the pinned program and in every row, IS THE sha256 OF THE DUMP (.gsa) THAT YtodckdlanlgkeaaProg.lean LOADS. Nothing in Lean hashes anything: it is a label: what it is worth is what the hold of that sum in a sandbox is worth. -/
noncomputable def Try.pinned : Pinned := { name := "ytodckdlanlgkeaa", sum := "4336b6e075af9f69ed60a88df1efe38c480cb0c4f8fe5f959061e4f3010c32b0", checked := Try.checked }
namespace Rows
def none {H : Type} : Left H := { results := [], args := [] }

/-- 'pentroughlaw11.ClusIs': WHATEVER THE INPUT: true; the input reads as it did. -/
def clusIsSpec : ChangeSpec := { name := "clusIs", fn := fun _ => fun
  | [d1, d2, d3] => { results := [.lit (.bool true)], args := [d1, d2, d3] }
  | _ => none }
def clusIsRow : OpenClaim := { program := "ytodckdlanlgkeaa", sum := "4336b6e075af9f69ed60a88df1efe38c480cb0c4f8fe5f959061e4f3010c32b0", func := "pentrough/pentroughlaw11.ClusIs", spec := "clusIs", unfollowed := true, recurses := true, apart := false }
def ClusIsSaid : Prop := clusIsRow.holds Try.pinned (OpenSpec.ofChange clusIsSpec)

/-- ITS FALSE NEIGHBOUR: 'it returns false'. Refute it at one input. -/
def clusIsWrong : ChangeSpec := { name := "clusIs", fn := fun _ => fun
  | [d1, d2, d3] => { results := [.lit (.bool false)], args := [d1, d2, d3] }
  | _ => none }
def ClusIsWrongFalsely : Prop := clusIsRow.holds Try.pinned (OpenSpec.ofChange clusIsWrong)

/-- 'pentroughlaw11.ClusSound': WHATEVER THE INPUT: true; the input reads as it did. -/
def clusSoundSpec : ChangeSpec := { name := "clusSound", fn := fun _ => fun
  | [d1, d2] => { results := [.lit (.bool true)], args := [d1, d2] }
  | _ => none }
def clusSoundRow : OpenClaim := { program := "ytodckdlanlgkeaa", sum := "4336b6e075af9f69ed60a88df1efe38c480cb0c4f8fe5f959061e4f3010c32b0", func := "pentrough/pentroughlaw11.ClusSound", spec := "clusSound", unfollowed := true, recurses := true, apart := false }
def ClusSoundSaid : Prop := clusSoundRow.holds Try.pinned (OpenSpec.ofChange clusSoundSpec)

/-- ITS FALSE NEIGHBOUR: 'it returns false'. Refute it at one input. -/
def clusSoundWrong : ChangeSpec := { name := "clusSound", fn := fun _ => fun
  | [d1, d2] => { results := [.lit (.bool false)], args := [d1, d2] }
  | _ => none }
def ClusSoundWrongFalsely : Prop := clusSoundRow.holds Try.pinned (OpenSpec.ofChange clusSoundWrong)

/-- 'pentroughlaw11.ClusExtends': WHATEVER THE INPUT: true; the input reads as it did. -/
def clusExtendsSpec : ChangeSpec := { name := "clusExtends", fn := fun _ => fun
  | [d] => { results := [.lit (.bool true)], args := [d] }
  | _ => none }
def clusExtendsRow : OpenClaim := { program := "ytodckdlanlgkeaa", sum := "4336b6e075af9f69ed60a88df1efe38c480cb0c4f8fe5f959061e4f3010c32b0", func := "pentrough/pentroughlaw11.ClusExtends", spec := "clusExtends", unfollowed := true, recurses := true, apart := false }
def ClusExtendsSaid : Prop := clusExtendsRow.holds Try.pinned (OpenSpec.ofChange clusExtendsSpec)

/-- ITS FALSE NEIGHBOUR: 'it returns false'. Refute it at one input. -/
def clusExtendsWrong : ChangeSpec := { name := "clusExtends", fn := fun _ => fun
  | [d] => { results := [.lit (.bool false)], args := [d] }
  | _ => none }
def ClusExtendsWrongFalsely : Prop := clusExtendsRow.holds Try.pinned (OpenSpec.ofChange clusExtendsWrong)

/-- 'pentroughlaw11.ClusFlags': WHATEVER THE INPUT: true; the input reads as it did. -/
def clusFlagsSpec : ChangeSpec := { name := "clusFlags", fn := fun _ => fun
  | [d1, d2] => { results := [.lit (.bool true)], args := [d1, d2] }
  | _ => none }
def clusFlagsRow : OpenClaim := { program := "ytodckdlanlgkeaa", sum := "4336b6e075af9f69ed60a88df1efe38c480cb0c4f8fe5f959061e4f3010c32b0", func := "pentrough/pentroughlaw11.ClusFlags", spec := "clusFlags", unfollowed := true, recurses := true, apart := false }
def ClusFlagsSaid : Prop := clusFlagsRow.holds Try.pinned (OpenSpec.ofChange clusFlagsSpec)

/-- ITS FALSE NEIGHBOUR: 'it returns false'. Refute it at one input. -/
def clusFlagsWrong : ChangeSpec := { name := "clusFlags", fn := fun _ => fun
  | [d1, d2] => { results := [.lit (.bool false)], args := [d1, d2] }
  | _ => none }
def ClusFlagsWrongFalsely : Prop := clusFlagsRow.holds Try.pinned (OpenSpec.ofChange clusFlagsWrong)

/-- 'pentroughlaw11.ClusRows': WHATEVER THE INPUT: true; the input reads as it did. -/
def clusRowsSpec : ChangeSpec := { name := "clusRows", fn := fun _ => fun
  | [d1, d2, d3] => { results := [.lit (.bool true)], args := [d1, d2, d3] }
  | _ => none }
def clusRowsRow : OpenClaim := { program := "ytodckdlanlgkeaa", sum := "4336b6e075af9f69ed60a88df1efe38c480cb0c4f8fe5f959061e4f3010c32b0", func := "pentrough/pentroughlaw11.ClusRows", spec := "clusRows", unfollowed := true, recurses := true, apart := false }
def ClusRowsSaid : Prop := clusRowsRow.holds Try.pinned (OpenSpec.ofChange clusRowsSpec)

/-- ITS FALSE NEIGHBOUR: 'it returns false'. Refute it at one input. -/
def clusRowsWrong : ChangeSpec := { name := "clusRows", fn := fun _ => fun
  | [d1, d2, d3] => { results := [.lit (.bool false)], args := [d1, d2, d3] }
  | _ => none }
def ClusRowsWrongFalsely : Prop := clusRowsRow.holds Try.pinned (OpenSpec.ofChange clusRowsWrong)

/-- 'pentroughlaw11.ClusSyllables': WHATEVER THE INPUT: true; the input reads as it did. -/
def clusSyllablesSpec : ChangeSpec := { name := "clusSyllables", fn := fun _ => fun
  | [d1, d2, d3] => { results := [.lit (.bool true)], args := [d1, d2, d3] }
  | _ => none }
def clusSyllablesRow : OpenClaim := { program := "ytodckdlanlgkeaa", sum := "4336b6e075af9f69ed60a88df1efe38c480cb0c4f8fe5f959061e4f3010c32b0", func := "pentrough/pentroughlaw11.ClusSyllables", spec := "clusSyllables", unfollowed := true, recurses := true, apart := false }
def ClusSyllablesSaid : Prop := clusSyllablesRow.holds Try.pinned (OpenSpec.ofChange clusSyllablesSpec)

/-- ITS FALSE NEIGHBOUR: 'it returns false'. Refute it at one input. -/
def clusSyllablesWrong : ChangeSpec := { name := "clusSyllables", fn := fun _ => fun
  | [d1, d2, d3] => { results := [.lit (.bool false)], args := [d1, d2, d3] }
  | _ => none }
def ClusSyllablesWrongFalsely : Prop := clusSyllablesRow.holds Try.pinned (OpenSpec.ofChange clusSyllablesWrong)

/- THE SECOND FORM. 'bulk': how many values and letters a reading holds, each counted each time it is reached (what is shared counts as often as it is met; a slice's spare places count too). A statement '..UptoSaid' is the law's where the arguments, and the package variables that the reading takes, are together of bulk at most 1048576: NARROWER than '..Said'. Prove '..Said' where nothing that the law and all that it calls make is longer than what came in: it says more and counts as full. Else prove '..UptoSaid'. A law counts once. -/
mutual
def uptoBulk {H : Type} : DataW H → Nat
  | .lit (.string bytes) => bytes.length + 1
  | .lit _ => 1
  | .nil => 1
  | .ptr d => uptoBulk d + 1
  | .slice elems spare => uptoBulkAll elems + uptoBulkAll spare + 1
  | .agg parts => uptoBulkAll parts + 1
  | .iface _ d => uptoBulk d + 1
  | .map entries => uptoBulkEntries entries + 1
  | .held _ => 1
def uptoBulkAll {H : Type} : List (DataW H) → Nat
  | [] => 0
  | d :: r => uptoBulk d + uptoBulkAll r
def uptoBulkEntries {H : Type} : List (Lit × DataW H) → Nat
  | [] => 0
  | x :: r => uptoBulkEntry x + uptoBulkEntries r
def uptoBulkEntry {H : Type} : Lit × DataW H → Nat
  | (.string bytes, d) => bytes.length + uptoBulk d + 1
  | (_, d) => uptoBulk d + 1
 end
def uptoSmall : (H : Type) → List (DataW H) → Bool := fun _ ds => decide (uptoBulkAll ds ≤ 1048576)
def OpenSpec.upto (s : _root_.Go.ChangeSpec) : _root_.Go.OpenSpec := { _root_.Go.OpenSpec.ofChange s with cond := some uptoSmall }

/-- 'pentroughlaw11.ClusIs', WHERE WHAT IT READS IS OF BULK AT MOST 1048576: true; the input reads as it did. -/
def clusIsUptoRow : OpenClaim := { program := "ytodckdlanlgkeaa", sum := "4336b6e075af9f69ed60a88df1efe38c480cb0c4f8fe5f959061e4f3010c32b0", func := "pentrough/pentroughlaw11.ClusIs", spec := "clusIs", unfollowed := true, recurses := true, apart := false, narrowed := true }
def ClusIsUptoSaid : Prop := clusIsUptoRow.holds Try.pinned (OpenSpec.upto clusIsSpec)

/-- 'pentroughlaw11.ClusSound', WHERE WHAT IT READS IS OF BULK AT MOST 1048576: true; the input reads as it did. -/
def clusSoundUptoRow : OpenClaim := { program := "ytodckdlanlgkeaa", sum := "4336b6e075af9f69ed60a88df1efe38c480cb0c4f8fe5f959061e4f3010c32b0", func := "pentrough/pentroughlaw11.ClusSound", spec := "clusSound", unfollowed := true, recurses := true, apart := false, narrowed := true }
def ClusSoundUptoSaid : Prop := clusSoundUptoRow.holds Try.pinned (OpenSpec.upto clusSoundSpec)

/-- 'pentroughlaw11.ClusExtends', WHERE WHAT IT READS IS OF BULK AT MOST 1048576: true; the input reads as it did. -/
def clusExtendsUptoRow : OpenClaim := { program := "ytodckdlanlgkeaa", sum := "4336b6e075af9f69ed60a88df1efe38c480cb0c4f8fe5f959061e4f3010c32b0", func := "pentrough/pentroughlaw11.ClusExtends", spec := "clusExtends", unfollowed := true, recurses := true, apart := false, narrowed := true }
def ClusExtendsUptoSaid : Prop := clusExtendsUptoRow.holds Try.pinned (OpenSpec.upto clusExtendsSpec)

/-- 'pentroughlaw11.ClusFlags', WHERE WHAT IT READS IS OF BULK AT MOST 1048576: true; the input reads as it did. -/
def clusFlagsUptoRow : OpenClaim := { program := "ytodckdlanlgkeaa", sum := "4336b6e075af9f69ed60a88df1efe38c480cb0c4f8fe5f959061e4f3010c32b0", func := "pentrough/pentroughlaw11.ClusFlags", spec := "clusFlags", unfollowed := true, recurses := true, apart := false, narrowed := true }
def ClusFlagsUptoSaid : Prop := clusFlagsUptoRow.holds Try.pinned (OpenSpec.upto clusFlagsSpec)

/-- 'pentroughlaw11.ClusRows', WHERE WHAT IT READS IS OF BULK AT MOST 1048576: true; the input reads as it did. -/
def clusRowsUptoRow : OpenClaim := { program := "ytodckdlanlgkeaa", sum := "4336b6e075af9f69ed60a88df1efe38c480cb0c4f8fe5f959061e4f3010c32b0", func := "pentrough/pentroughlaw11.ClusRows", spec := "clusRows", unfollowed := true, recurses := true, apart := false, narrowed := true }
def ClusRowsUptoSaid : Prop := clusRowsUptoRow.holds Try.pinned (OpenSpec.upto clusRowsSpec)

/-- 'pentroughlaw11.ClusSyllables', WHERE WHAT IT READS IS OF BULK AT MOST 1048576: true; the input reads as it did. -/
def clusSyllablesUptoRow : OpenClaim := { program := "ytodckdlanlgkeaa", sum := "4336b6e075af9f69ed60a88df1efe38c480cb0c4f8fe5f959061e4f3010c32b0", func := "pentrough/pentroughlaw11.ClusSyllables", spec := "clusSyllables", unfollowed := true, recurses := true, apart := false, narrowed := true }
def ClusSyllablesUptoSaid : Prop := clusSyllablesUptoRow.holds Try.pinned (OpenSpec.upto clusSyllablesSpec)

end Rows
end Go.Proofs.Ytodckdlanlgkeaa
