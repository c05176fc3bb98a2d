/-
  DERIVED. GIVEN WITH THE SEED: THE CARDS: each row of YtfmnecknfmgggaaGreatDoorRows.lean that lists a variable, with what it lists TIED to the program's text (the seventh form; the later family's looks); each row that meets fmt, with fmt's text TOLD by the authors' own Lean function (tested against real Go, not proved from fmt's source: count such statements apart). THE CARD IS WHAT COUNTS. Prove the row's statement (the work); the ties are given (YtfmnecknfmgggaaGreatDoorTie.lean); close each card by the builder's one call (the guide's Derived/Test/ToyasCard.lean, 'card_holds'). Laid BY PROGRAM, IN A SANDBOX (cutbox-door.mjs). By AI agents, Wed Nov 11 2026. No macro, syntax, notation, axiom, sorry.
-/
import Derived.Test.YtfmnecknfmgggaaGreatDoorRows
import GoSem.ClaimSeven
namespace Go.Proofs.YtfmnecknfmgggaaGreatDoor
namespace Rows

/-- THE TIED CARD OF 'pentroughlaw10.FoldinIs'. -/
def foldinIsCard : Claim7 := { stood := { row := foldinIsRow, standIns := [], harness := (true, "2e15a7d5addff3ae7f4bac02368b7b6f3ff16ae5e91346c4fef2c19c266c2cdd"), looks := true }, kinds := [], alts := [], laidByText := true, laidKinds := [.data, .data, .data, .sentinel, .sentinel], laidTests := true, laidLooks := .later }
def FoldinIsCardSaid : Prop := Claim7.holds Tryz.pinned (.plain (OpenSpec.ofChange foldinIsSpec)) foldinIsCard

/-- THE TIED CARD OF 'pentroughlaw10.FoldinCase'. -/
def foldinCaseCard : Claim7 := { stood := { row := foldinCaseRow, standIns := [], harness := (true, "2e15a7d5addff3ae7f4bac02368b7b6f3ff16ae5e91346c4fef2c19c266c2cdd"), looks := true }, kinds := [], alts := [], laidByText := true, laidKinds := [.data, .data, .data, .sentinel, .sentinel], laidTests := true, laidLooks := .later }
def FoldinCaseCardSaid : Prop := Claim7.holds Tryz.pinned (.plain (OpenSpec.ofChange foldinCaseSpec)) foldinCaseCard

/-- THE SECOND FORM's CARD OF 'pentroughlaw10.FoldinIs'. -/
def foldinIsUptoCard : Claim7 := { stood := { row := foldinIsUptoRow, standIns := [], harness := (true, "2e15a7d5addff3ae7f4bac02368b7b6f3ff16ae5e91346c4fef2c19c266c2cdd"), looks := true }, kinds := [], alts := [], laidByText := true, laidKinds := [.data, .data, .data, .sentinel, .sentinel], laidTests := true, laidLooks := .later }
def FoldinIsUptoCardSaid : Prop := Claim7.holds Tryz.pinned (.plain (OpenSpec.upto foldinIsSpec)) foldinIsUptoCard

/-- THE SECOND FORM's CARD OF 'pentroughlaw10.FoldinCase'. -/
def foldinCaseUptoCard : Claim7 := { stood := { row := foldinCaseUptoRow, standIns := [], harness := (true, "2e15a7d5addff3ae7f4bac02368b7b6f3ff16ae5e91346c4fef2c19c266c2cdd"), looks := true }, kinds := [], alts := [], laidByText := true, laidKinds := [.data, .data, .data, .sentinel, .sentinel], laidTests := true, laidLooks := .later }
def FoldinCaseUptoCardSaid : Prop := Claim7.holds Tryz.pinned (.plain (OpenSpec.upto foldinCaseSpec)) foldinCaseUptoCard
end Rows
end Go.Proofs.YtfmnecknfmgggaaGreatDoor
