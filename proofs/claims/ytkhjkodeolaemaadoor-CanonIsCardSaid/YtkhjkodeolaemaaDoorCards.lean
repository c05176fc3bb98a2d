/-
  DERIVED. GIVEN WITH THE SEED: THE CARDS: each row of YtkhjkodeolaemaaDoorRows.lean that lists a variable, with what it lists TIED to the program's text (the seventh form; the later family's looks); each row that meets fmt, with fmt's text TOLD by the authors' own Lean function (tested against real Go, not proved from fmt's source: count such statements apart). THE CARD IS WHAT COUNTS. Prove the row's statement (the work); the ties are given (YtkhjkodeolaemaaDoorTie.lean); close each card by the builder's one call (the guide's Derived/Test/ToyasCard.lean, 'card_holds'). Laid BY PROGRAM, IN A SANDBOX (cutbox-door.mjs). By AI agents, Wed Nov 11 2026. No macro, syntax, notation, axiom, sorry.
-/
import Derived.Test.YtkhjkodeolaemaaDoorRows
import GoSem.ClaimSeven
namespace Go.Proofs.YtkhjkodeolaemaaDoor
namespace Rows

/-- THE TIED CARD OF 'pentroughlaw07.CanonIs'. -/
def canonIsCard : Claim7 := { stood := { row := canonIsRow, standIns := [], harness := (true, "a30586f11755c925d5d15c875293b3e4caa9d432e859feb5aa09fdaa7011e7cc"), looks := true }, kinds := [], alts := [], laidByText := true, laidKinds := [.data, .data, .data, .sentinel, .sentinel], laidTests := true, laidLooks := .later }
def CanonIsCardSaid : Prop := Claim7.holds Tryd.pinned (.plain (OpenSpec.ofChange canonIsSpec)) canonIsCard

/-- THE TIED CARD OF 'pentroughlaw07.CanonOrders'. -/
def canonOrdersCard : Claim7 := { stood := { row := canonOrdersRow, standIns := [], harness := (true, "a30586f11755c925d5d15c875293b3e4caa9d432e859feb5aa09fdaa7011e7cc"), looks := true }, kinds := [], alts := [], laidByText := true, laidKinds := [.data, .data, .data, .sentinel, .sentinel], laidTests := true, laidLooks := .later }
def CanonOrdersCardSaid : Prop := Claim7.holds Tryd.pinned (.plain (OpenSpec.ofChange canonOrdersSpec)) canonOrdersCard

/-- THE TIED CARD OF 'pentroughlaw07.CanonComposes'. -/
def canonComposesCard : Claim7 := { stood := { row := canonComposesRow, standIns := [], harness := (true, "a30586f11755c925d5d15c875293b3e4caa9d432e859feb5aa09fdaa7011e7cc"), looks := true }, kinds := [], alts := [], laidByText := true, laidKinds := [.data, .data, .data, .sentinel, .sentinel], laidTests := true, laidLooks := .later }
def CanonComposesCardSaid : Prop := Claim7.holds Tryd.pinned (.plain (OpenSpec.ofChange canonComposesSpec)) canonComposesCard

/-- THE TIED CARD OF 'pentroughlaw07.CanonHeads'. -/
def canonHeadsCard : Claim7 := { stood := { row := canonHeadsRow, standIns := [], harness := (true, "a30586f11755c925d5d15c875293b3e4caa9d432e859feb5aa09fdaa7011e7cc"), looks := true }, kinds := [], alts := [], laidByText := true, laidKinds := [.data, .data, .data, .sentinel, .sentinel], laidTests := true, laidLooks := .later }
def CanonHeadsCardSaid : Prop := Claim7.holds Tryd.pinned (.plain (OpenSpec.ofChange canonHeadsSpec)) canonHeadsCard

/-- THE TIED CARD OF 'pentroughlaw07.CanonThree'. -/
def canonThreeCard : Claim7 := { stood := { row := canonThreeRow, standIns := [], harness := (true, "a30586f11755c925d5d15c875293b3e4caa9d432e859feb5aa09fdaa7011e7cc"), looks := true }, kinds := [], alts := [], laidByText := true, laidKinds := [.data, .data, .data, .sentinel, .sentinel], laidTests := true, laidLooks := .later }
def CanonThreeCardSaid : Prop := Claim7.holds Tryd.pinned (.plain (OpenSpec.ofChange canonThreeSpec)) canonThreeCard

/-- THE SECOND FORM's CARD OF 'pentroughlaw07.CanonIs'. -/
def canonIsUptoCard : Claim7 := { stood := { row := canonIsUptoRow, standIns := [], harness := (true, "a30586f11755c925d5d15c875293b3e4caa9d432e859feb5aa09fdaa7011e7cc"), looks := true }, kinds := [], alts := [], laidByText := true, laidKinds := [.data, .data, .data, .sentinel, .sentinel], laidTests := true, laidLooks := .later }
def CanonIsUptoCardSaid : Prop := Claim7.holds Tryd.pinned (.plain (OpenSpec.upto canonIsSpec)) canonIsUptoCard

/-- THE SECOND FORM's CARD OF 'pentroughlaw07.CanonOrders'. -/
def canonOrdersUptoCard : Claim7 := { stood := { row := canonOrdersUptoRow, standIns := [], harness := (true, "a30586f11755c925d5d15c875293b3e4caa9d432e859feb5aa09fdaa7011e7cc"), looks := true }, kinds := [], alts := [], laidByText := true, laidKinds := [.data, .data, .data, .sentinel, .sentinel], laidTests := true, laidLooks := .later }
def CanonOrdersUptoCardSaid : Prop := Claim7.holds Tryd.pinned (.plain (OpenSpec.upto canonOrdersSpec)) canonOrdersUptoCard

/-- THE SECOND FORM's CARD OF 'pentroughlaw07.CanonComposes'. -/
def canonComposesUptoCard : Claim7 := { stood := { row := canonComposesUptoRow, standIns := [], harness := (true, "a30586f11755c925d5d15c875293b3e4caa9d432e859feb5aa09fdaa7011e7cc"), looks := true }, kinds := [], alts := [], laidByText := true, laidKinds := [.data, .data, .data, .sentinel, .sentinel], laidTests := true, laidLooks := .later }
def CanonComposesUptoCardSaid : Prop := Claim7.holds Tryd.pinned (.plain (OpenSpec.upto canonComposesSpec)) canonComposesUptoCard

/-- THE SECOND FORM's CARD OF 'pentroughlaw07.CanonHeads'. -/
def canonHeadsUptoCard : Claim7 := { stood := { row := canonHeadsUptoRow, standIns := [], harness := (true, "a30586f11755c925d5d15c875293b3e4caa9d432e859feb5aa09fdaa7011e7cc"), looks := true }, kinds := [], alts := [], laidByText := true, laidKinds := [.data, .data, .data, .sentinel, .sentinel], laidTests := true, laidLooks := .later }
def CanonHeadsUptoCardSaid : Prop := Claim7.holds Tryd.pinned (.plain (OpenSpec.upto canonHeadsSpec)) canonHeadsUptoCard

/-- THE SECOND FORM's CARD OF 'pentroughlaw07.CanonThree'. -/
def canonThreeUptoCard : Claim7 := { stood := { row := canonThreeUptoRow, standIns := [], harness := (true, "a30586f11755c925d5d15c875293b3e4caa9d432e859feb5aa09fdaa7011e7cc"), looks := true }, kinds := [], alts := [], laidByText := true, laidKinds := [.data, .data, .data, .sentinel, .sentinel], laidTests := true, laidLooks := .later }
def CanonThreeUptoCardSaid : Prop := Claim7.holds Tryd.pinned (.plain (OpenSpec.upto canonThreeSpec)) canonThreeUptoCard
end Rows
end Go.Proofs.YtkhjkodeolaemaaDoor
