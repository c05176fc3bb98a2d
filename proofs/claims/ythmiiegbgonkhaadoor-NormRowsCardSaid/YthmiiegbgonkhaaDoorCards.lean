/-
  DERIVED. GIVEN WITH THE SEED: THE CARDS: each row of YthmiiegbgonkhaaDoorRows.lean that lists a variable, with what it lists TIED to the program's text (the seventh form; the later family's looks); each row that meets fmt, with fmt's text TOLD by the authors' own Lean function (tested against real Go, not proved from fmt's source: count such statements apart). THE CARD IS WHAT COUNTS. Prove the row's statement (the work); the ties are given (YthmiiegbgonkhaaDoorTie.lean); close each card by the builder's one call (the guide's Derived/Test/ToyasCard.lean, 'card_holds'). Laid BY PROGRAM, IN A SANDBOX (cutbox-door.mjs). By AI agents, Wed Nov 11 2026. No macro, syntax, notation, axiom, sorry.
-/
import Derived.Test.YthmiiegbgonkhaaDoorRows
import GoSem.ClaimSeven
namespace Go.Proofs.YthmiiegbgonkhaaDoor
namespace Rows

/-- THE TIED CARD OF 'pentroughlaw09.NormAll'. -/
def normAllCard : Claim7 := { stood := { row := normAllRow, standIns := [], harness := (true, "ecf60a0b509c99e7fd1b7a1f5e305820c2640ff4f2452ac9a768212f5b6d3f36"), looks := true }, kinds := [], alts := [], laidByText := true, laidKinds := [.data, .data, .data, .sentinel, .sentinel], laidTests := true, laidLooks := .later }
def NormAllCardSaid : Prop := Claim7.holds Tryd.pinned (.plain (OpenSpec.ofChange normAllSpec)) normAllCard

/-- THE TIED CARD OF 'pentroughlaw09.NormKeeps'. -/
def normKeepsCard : Claim7 := { stood := { row := normKeepsRow, standIns := [], harness := (true, "ecf60a0b509c99e7fd1b7a1f5e305820c2640ff4f2452ac9a768212f5b6d3f36"), looks := true }, kinds := [], alts := [], laidByText := true, laidKinds := [.data, .data, .data, .sentinel, .sentinel], laidTests := true, laidLooks := .later }
def NormKeepsCardSaid : Prop := Claim7.holds Tryd.pinned (.plain (OpenSpec.ofChange normKeepsSpec)) normKeepsCard

/-- THE TIED CARD OF 'pentroughlaw09.NormParts'. -/
def normPartsCard : Claim7 := { stood := { row := normPartsRow, standIns := [], harness := (true, "ecf60a0b509c99e7fd1b7a1f5e305820c2640ff4f2452ac9a768212f5b6d3f36"), looks := true }, kinds := [], alts := [], laidByText := true, laidKinds := [.data, .data, .data, .sentinel, .sentinel], laidTests := true, laidLooks := .later }
def NormPartsCardSaid : Prop := Claim7.holds Tryd.pinned (.plain (OpenSpec.ofChange normPartsSpec)) normPartsCard

/-- THE TIED CARD OF 'pentroughlaw09.NormRows'. -/
def normRowsCard : Claim7 := { stood := { row := normRowsRow, standIns := [], harness := (true, "ecf60a0b509c99e7fd1b7a1f5e305820c2640ff4f2452ac9a768212f5b6d3f36"), looks := true }, kinds := [], alts := [], laidByText := true, laidKinds := [.data, .data, .data, .sentinel, .sentinel], laidTests := true, laidLooks := .later }
def NormRowsCardSaid : Prop := Claim7.holds Tryd.pinned (.plain (OpenSpec.ofChange normRowsSpec)) normRowsCard

/-- THE SECOND FORM's CARD OF 'pentroughlaw09.NormAll'. -/
def normAllUptoCard : Claim7 := { stood := { row := normAllUptoRow, standIns := [], harness := (true, "ecf60a0b509c99e7fd1b7a1f5e305820c2640ff4f2452ac9a768212f5b6d3f36"), looks := true }, kinds := [], alts := [], laidByText := true, laidKinds := [.data, .data, .data, .sentinel, .sentinel], laidTests := true, laidLooks := .later }
def NormAllUptoCardSaid : Prop := Claim7.holds Tryd.pinned (.plain (OpenSpec.upto normAllSpec)) normAllUptoCard

/-- THE SECOND FORM's CARD OF 'pentroughlaw09.NormKeeps'. -/
def normKeepsUptoCard : Claim7 := { stood := { row := normKeepsUptoRow, standIns := [], harness := (true, "ecf60a0b509c99e7fd1b7a1f5e305820c2640ff4f2452ac9a768212f5b6d3f36"), looks := true }, kinds := [], alts := [], laidByText := true, laidKinds := [.data, .data, .data, .sentinel, .sentinel], laidTests := true, laidLooks := .later }
def NormKeepsUptoCardSaid : Prop := Claim7.holds Tryd.pinned (.plain (OpenSpec.upto normKeepsSpec)) normKeepsUptoCard

/-- THE SECOND FORM's CARD OF 'pentroughlaw09.NormParts'. -/
def normPartsUptoCard : Claim7 := { stood := { row := normPartsUptoRow, standIns := [], harness := (true, "ecf60a0b509c99e7fd1b7a1f5e305820c2640ff4f2452ac9a768212f5b6d3f36"), looks := true }, kinds := [], alts := [], laidByText := true, laidKinds := [.data, .data, .data, .sentinel, .sentinel], laidTests := true, laidLooks := .later }
def NormPartsUptoCardSaid : Prop := Claim7.holds Tryd.pinned (.plain (OpenSpec.upto normPartsSpec)) normPartsUptoCard

/-- THE SECOND FORM's CARD OF 'pentroughlaw09.NormRows'. -/
def normRowsUptoCard : Claim7 := { stood := { row := normRowsUptoRow, standIns := [], harness := (true, "ecf60a0b509c99e7fd1b7a1f5e305820c2640ff4f2452ac9a768212f5b6d3f36"), looks := true }, kinds := [], alts := [], laidByText := true, laidKinds := [.data, .data, .data, .sentinel, .sentinel], laidTests := true, laidLooks := .later }
def NormRowsUptoCardSaid : Prop := Claim7.holds Tryd.pinned (.plain (OpenSpec.upto normRowsSpec)) normRowsUptoCard
end Rows
end Go.Proofs.YthmiiegbgonkhaaDoor
