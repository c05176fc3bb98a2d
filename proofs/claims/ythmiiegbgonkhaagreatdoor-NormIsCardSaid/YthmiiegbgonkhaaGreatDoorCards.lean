/-
  DERIVED. GIVEN WITH THE SEED: THE CARDS: each row of YthmiiegbgonkhaaGreatDoorRows.lean that lists a variable, with what it lists TIED to the program's text (the seventh form; the later family's looks); each row that meets fmt, with fmt's text TOLD by the authors' own Lean function (tested against real Go, not proved from fmt's source: count such statements apart). THE CARD IS WHAT COUNTS. Prove the row's statement (the work); the ties are given (YthmiiegbgonkhaaGreatDoorTie.lean); close each card by the builder's one call (the guide's Derived/Test/ToyasCard.lean, 'card_holds'). Laid BY PROGRAM, IN A SANDBOX (cutbox-door.mjs). By AI agents, Wed Nov 11 2026. No macro, syntax, notation, axiom, sorry.
-/
import Derived.Test.YthmiiegbgonkhaaGreatDoorRows
import GoSem.ClaimSeven
namespace Go.Proofs.YthmiiegbgonkhaaGreatDoor
namespace Rows

/-- THE TIED CARD OF 'pentroughlaw09.NormIs'. -/
def normIsCard : Claim7 := { stood := { row := normIsRow, standIns := [], harness := (true, "4152f245de8d6fb197e0a3e340ac079e6c11d2266f4e9a6d07a6e9ed93babefe"), looks := true }, kinds := [], alts := [], laidByText := true, laidKinds := [.data, .data, .data, .sentinel, .sentinel], laidTests := true, laidLooks := .later }
def NormIsCardSaid : Prop := Claim7.holds Tryz.pinned (.plain (OpenSpec.ofChange normIsSpec)) normIsCard

/-- THE SECOND FORM's CARD OF 'pentroughlaw09.NormIs'. -/
def normIsUptoCard : Claim7 := { stood := { row := normIsUptoRow, standIns := [], harness := (true, "4152f245de8d6fb197e0a3e340ac079e6c11d2266f4e9a6d07a6e9ed93babefe"), looks := true }, kinds := [], alts := [], laidByText := true, laidKinds := [.data, .data, .data, .sentinel, .sentinel], laidTests := true, laidLooks := .later }
def NormIsUptoCardSaid : Prop := Claim7.holds Tryz.pinned (.plain (OpenSpec.upto normIsSpec)) normIsUptoCard
end Rows
end Go.Proofs.YthmiiegbgonkhaaGreatDoor
