/-
  DERIVED. GIVEN WITH THE SEED: THE CARDS: each row of YtcchcgllgodkhaaDoorRows.lean that lists a variable, with what it lists TIED to the program's text (the seventh form; the later family's looks); each row that meets fmt, with fmt's text TOLD by the authors' own Lean function (tested against real Go, not proved from fmt's source: count such statements apart). THE CARD IS WHAT COUNTS. Prove the row's statement (the work); the ties are given (YtcchcgllgodkhaaDoorTie.lean); close each card by the builder's one call (the guide's Derived/Test/ToyasCard.lean, 'card_holds'). Laid BY PROGRAM, IN A SANDBOX (cutbox-door.mjs). By AI agents, Wed Nov 11 2026. No macro, syntax, notation, axiom, sorry.
-/
import Derived.Test.YtcchcgllgodkhaaDoorRows
import GoSem.ClaimSeven
namespace Go.Proofs.YtcchcgllgodkhaaDoor
namespace Rows

/-- THE TIED CARD OF 'pentroughlaw01.DecIs'. -/
def decIsCard : Claim7 := { stood := { row := decIsRow, standIns := [], harness := (true, "708d837218d20bb4b77c4ee6a8cd6bb038c8f26212892e0b5b5ab55c173bc228"), looks := false }, kinds := [], alts := [], laidByText := true, laidKinds := [.data, .pinned], laidTests := true, laidLooks := .later }
def DecIsCardSaid : Prop := Claim7.holds Tryd.pinned (.plain (OpenSpec.ofChange decIsSpec)) decIsCard

/-- THE SECOND FORM's CARD OF 'pentroughlaw01.DecIs'. -/
def decIsUptoCard : Claim7 := { stood := { row := decIsUptoRow, standIns := [], harness := (true, "708d837218d20bb4b77c4ee6a8cd6bb038c8f26212892e0b5b5ab55c173bc228"), looks := false }, kinds := [], alts := [], laidByText := true, laidKinds := [.data, .pinned], laidTests := true, laidLooks := .later }
def DecIsUptoCardSaid : Prop := Claim7.holds Tryd.pinned (.plain (OpenSpec.upto decIsSpec)) decIsUptoCard
end Rows
end Go.Proofs.YtcchcgllgodkhaaDoor
