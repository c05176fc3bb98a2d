/-
  DERIVED. GIVEN WITH THE SEED: THE CARDS: each row of YtiidjkhkcckmkaaGreatDoorRows.lean that lists a variable, with what it lists TIED to the program's text (the seventh form; the later family's looks); each row that meets fmt, with fmt's text TOLD by the authors' own Lean function (tested against real Go, not proved from fmt's source: count such statements apart). THE CARD IS WHAT COUNTS. Prove the row's statement (the work); the ties are given (YtiidjkhkcckmkaaGreatDoorTie.lean); close each card by the builder's one call (the guide's Derived/Test/ToyasCard.lean, 'card_holds'). Laid BY PROGRAM, IN A SANDBOX (cutbox-door.mjs). By AI agents, Wed Nov 11 2026. No macro, syntax, notation, axiom, sorry.
-/
import Derived.Test.YtiidjkhkcckmkaaGreatDoorRows
import GoSem.ClaimSeven
namespace Go.Proofs.YtiidjkhkcckmkaaGreatDoor
namespace Rows

/-- THE TIED CARD OF 'pentroughlaw15.MachIs'. -/
def machIsCard : Claim7 := { stood := { row := machIsRow, standIns := [], harness := (true, "20fd62d28c5c6d83b7db53ae942c172a3010f5654a55e7d16a6b0480a7050b85"), looks := true }, kinds := [], alts := [], laidByText := true, laidKinds := [.data, .data, .data, .data, .sentinel, .sentinel, .pinned], laidTests := true, laidLooks := .later }
def MachIsCardSaid : Prop := Claim7.holds Tryz.pinned (.plain (OpenSpec.ofChange machIsSpec)) machIsCard

/-- THE TIED CARD OF 'pentroughlaw15.MachAll'. -/
def machAllCard : Claim7 := { stood := { row := machAllRow, standIns := [], harness := (true, "20fd62d28c5c6d83b7db53ae942c172a3010f5654a55e7d16a6b0480a7050b85"), looks := true }, kinds := [], alts := [], laidByText := true, laidKinds := [.data, .data, .data, .data, .sentinel, .sentinel, .pinned], laidTests := true, laidLooks := .later }
def MachAllCardSaid : Prop := Claim7.holds Tryz.pinned (.plain (OpenSpec.ofChange machAllSpec)) machAllCard

/-- THE TIED CARD OF 'pentroughlaw15.MachKeeps'. -/
def machKeepsCard : Claim7 := { stood := { row := machKeepsRow, standIns := [], harness := (true, "20fd62d28c5c6d83b7db53ae942c172a3010f5654a55e7d16a6b0480a7050b85"), looks := true }, kinds := [], alts := [], laidByText := true, laidKinds := [.data, .data, .data, .data, .sentinel, .sentinel, .pinned], laidTests := true, laidLooks := .later }
def MachKeepsCardSaid : Prop := Claim7.holds Tryz.pinned (.plain (OpenSpec.ofChange machKeepsSpec)) machKeepsCard

/-- THE TIED CARD OF 'pentroughlaw15.MachParts'. -/
def machPartsCard : Claim7 := { stood := { row := machPartsRow, standIns := [], harness := (true, "20fd62d28c5c6d83b7db53ae942c172a3010f5654a55e7d16a6b0480a7050b85"), looks := true }, kinds := [], alts := [], laidByText := true, laidKinds := [.data, .data, .data, .data, .sentinel, .sentinel, .pinned], laidTests := true, laidLooks := .later }
def MachPartsCardSaid : Prop := Claim7.holds Tryz.pinned (.plain (OpenSpec.ofChange machPartsSpec)) machPartsCard

/-- THE TIED CARD OF 'pentroughlaw15.MachItems'. -/
def machItemsCard : Claim7 := { stood := { row := machItemsRow, standIns := [], harness := (true, "20fd62d28c5c6d83b7db53ae942c172a3010f5654a55e7d16a6b0480a7050b85"), looks := true }, kinds := [], alts := [], laidByText := true, laidKinds := [.data, .data, .data, .data, .sentinel, .sentinel, .pinned], laidTests := true, laidLooks := .later }
def MachItemsCardSaid : Prop := Claim7.holds Tryz.pinned (.plain (OpenSpec.ofChange machItemsSpec)) machItemsCard

/-- THE SECOND FORM's CARD OF 'pentroughlaw15.MachIs'. -/
def machIsUptoCard : Claim7 := { stood := { row := machIsUptoRow, standIns := [], harness := (true, "20fd62d28c5c6d83b7db53ae942c172a3010f5654a55e7d16a6b0480a7050b85"), looks := true }, kinds := [], alts := [], laidByText := true, laidKinds := [.data, .data, .data, .data, .sentinel, .sentinel, .pinned], laidTests := true, laidLooks := .later }
def MachIsUptoCardSaid : Prop := Claim7.holds Tryz.pinned (.plain (OpenSpec.upto machIsSpec)) machIsUptoCard

/-- THE SECOND FORM's CARD OF 'pentroughlaw15.MachAll'. -/
def machAllUptoCard : Claim7 := { stood := { row := machAllUptoRow, standIns := [], harness := (true, "20fd62d28c5c6d83b7db53ae942c172a3010f5654a55e7d16a6b0480a7050b85"), looks := true }, kinds := [], alts := [], laidByText := true, laidKinds := [.data, .data, .data, .data, .sentinel, .sentinel, .pinned], laidTests := true, laidLooks := .later }
def MachAllUptoCardSaid : Prop := Claim7.holds Tryz.pinned (.plain (OpenSpec.upto machAllSpec)) machAllUptoCard

/-- THE SECOND FORM's CARD OF 'pentroughlaw15.MachKeeps'. -/
def machKeepsUptoCard : Claim7 := { stood := { row := machKeepsUptoRow, standIns := [], harness := (true, "20fd62d28c5c6d83b7db53ae942c172a3010f5654a55e7d16a6b0480a7050b85"), looks := true }, kinds := [], alts := [], laidByText := true, laidKinds := [.data, .data, .data, .data, .sentinel, .sentinel, .pinned], laidTests := true, laidLooks := .later }
def MachKeepsUptoCardSaid : Prop := Claim7.holds Tryz.pinned (.plain (OpenSpec.upto machKeepsSpec)) machKeepsUptoCard

/-- THE SECOND FORM's CARD OF 'pentroughlaw15.MachParts'. -/
def machPartsUptoCard : Claim7 := { stood := { row := machPartsUptoRow, standIns := [], harness := (true, "20fd62d28c5c6d83b7db53ae942c172a3010f5654a55e7d16a6b0480a7050b85"), looks := true }, kinds := [], alts := [], laidByText := true, laidKinds := [.data, .data, .data, .data, .sentinel, .sentinel, .pinned], laidTests := true, laidLooks := .later }
def MachPartsUptoCardSaid : Prop := Claim7.holds Tryz.pinned (.plain (OpenSpec.upto machPartsSpec)) machPartsUptoCard

/-- THE SECOND FORM's CARD OF 'pentroughlaw15.MachItems'. -/
def machItemsUptoCard : Claim7 := { stood := { row := machItemsUptoRow, standIns := [], harness := (true, "20fd62d28c5c6d83b7db53ae942c172a3010f5654a55e7d16a6b0480a7050b85"), looks := true }, kinds := [], alts := [], laidByText := true, laidKinds := [.data, .data, .data, .data, .sentinel, .sentinel, .pinned], laidTests := true, laidLooks := .later }
def MachItemsUptoCardSaid : Prop := Claim7.holds Tryz.pinned (.plain (OpenSpec.upto machItemsSpec)) machItemsUptoCard
end Rows
end Go.Proofs.YtiidjkhkcckmkaaGreatDoor
