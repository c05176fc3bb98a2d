/-
  DERIVED. GIVEN WITH THE SEED: THE CARDS: each row of YtfmnecknfmgggaaDoorRows.lean that lists a variable, with what it lists TIED to the program's text (the seventh form; the later family's looks); each row that meets fmt, with fmt's text TOLD by the authors' own Lean function (tested against real Go, not proved from fmt's source: count such statements apart). THE CARD IS WHAT COUNTS. Prove the row's statement (the work); the ties are given (YtfmnecknfmgggaaDoorTie.lean); close each card by the builder's one call (the guide's Derived/Test/ToyasCard.lean, 'card_holds'). Laid BY PROGRAM, IN A SANDBOX (cutbox-door.mjs). By AI agents, Wed Nov 11 2026. No macro, syntax, notation, axiom, sorry.
-/
import Derived.Test.YtfmnecknfmgggaaDoorRows
import GoSem.ClaimSeven
namespace Go.Proofs.YtfmnecknfmgggaaDoor
namespace Rows

/-- THE TIED CARD OF 'pentroughlaw10.FoldinDrops'. -/
def foldinDropsCard : Claim7 := { stood := { row := foldinDropsRow, standIns := [], harness := (true, "72ae847bc40a65a686e63aa657f073d3e2b82ed33d6cb1972a31eaa5810bda99"), looks := true }, kinds := [], alts := [], laidByText := true, laidKinds := [.data, .data, .data, .sentinel, .sentinel], laidTests := true, laidLooks := .later }
def FoldinDropsCardSaid : Prop := Claim7.holds Tryd.pinned (.plain (OpenSpec.ofChange foldinDropsSpec)) foldinDropsCard

/-- THE TIED CARD OF 'pentroughlaw10.FoldinKeeps'. -/
def foldinKeepsCard : Claim7 := { stood := { row := foldinKeepsRow, standIns := [], harness := (true, "72ae847bc40a65a686e63aa657f073d3e2b82ed33d6cb1972a31eaa5810bda99"), looks := true }, kinds := [], alts := [], laidByText := true, laidKinds := [.data, .data, .data, .sentinel, .sentinel], laidTests := true, laidLooks := .later }
def FoldinKeepsCardSaid : Prop := Claim7.holds Tryd.pinned (.plain (OpenSpec.ofChange foldinKeepsSpec)) foldinKeepsCard

/-- THE SECOND FORM's CARD OF 'pentroughlaw10.FoldinDrops'. -/
def foldinDropsUptoCard : Claim7 := { stood := { row := foldinDropsUptoRow, standIns := [], harness := (true, "72ae847bc40a65a686e63aa657f073d3e2b82ed33d6cb1972a31eaa5810bda99"), looks := true }, kinds := [], alts := [], laidByText := true, laidKinds := [.data, .data, .data, .sentinel, .sentinel], laidTests := true, laidLooks := .later }
def FoldinDropsUptoCardSaid : Prop := Claim7.holds Tryd.pinned (.plain (OpenSpec.upto foldinDropsSpec)) foldinDropsUptoCard

/-- THE SECOND FORM's CARD OF 'pentroughlaw10.FoldinKeeps'. -/
def foldinKeepsUptoCard : Claim7 := { stood := { row := foldinKeepsUptoRow, standIns := [], harness := (true, "72ae847bc40a65a686e63aa657f073d3e2b82ed33d6cb1972a31eaa5810bda99"), looks := true }, kinds := [], alts := [], laidByText := true, laidKinds := [.data, .data, .data, .sentinel, .sentinel], laidTests := true, laidLooks := .later }
def FoldinKeepsUptoCardSaid : Prop := Claim7.holds Tryd.pinned (.plain (OpenSpec.upto foldinKeepsSpec)) foldinKeepsUptoCard
end Rows
end Go.Proofs.YtfmnecknfmgggaaDoor
