/-
  DERIVED. GIVEN WITH THE SEED: THE CARDS: each row of YtnlnkjaapdefiaaGreatDoorRows.lean that lists a variable, with what it lists TIED to the program's text (the seventh form; the later family's looks); each row that meets fmt, with fmt's text TOLD by the authors' own Lean function (tested against real Go, not proved from fmt's source: count such statements apart). THE CARD IS WHAT COUNTS. Prove the row's statement (the work); the ties are given (YtnlnkjaapdefiaaGreatDoorTie.lean); close each card by the builder's one call (the guide's Derived/Test/ToyasCard.lean, 'card_holds'). Laid BY PROGRAM, IN A SANDBOX (cutbox-door.mjs). By AI agents, Wed Nov 11 2026. No macro, syntax, notation, axiom, sorry.
-/
import Derived.Test.YtnlnkjaapdefiaaGreatDoorRows
import GoSem.ClaimSeven
namespace Go.Proofs.YtnlnkjaapdefiaaGreatDoor
namespace Rows

/-- THE TIED CARD OF 'pentroughlaw14.FlowIs'. -/
def flowIsCard : Claim7 := { stood := { row := flowIsRow, standIns := [], harness := (true, "41a8296698deecf15b6e0e18dda082c6f11fbb33884ebfcdd4a59812635c79d4"), looks := true }, kinds := [], alts := [], laidByText := true, laidKinds := [.data, .data, .data, .data, .sentinel, .sentinel, .pinned], laidTests := true, laidLooks := .later }
def FlowIsCardSaid : Prop := Claim7.holds Tryz.pinned (.plain (OpenSpec.ofChange flowIsSpec)) flowIsCard

/-- THE TIED CARD OF 'pentroughlaw14.FlowFrames'. -/
def flowFramesCard : Claim7 := { stood := { row := flowFramesRow, standIns := [], harness := (true, "41a8296698deecf15b6e0e18dda082c6f11fbb33884ebfcdd4a59812635c79d4"), looks := true }, kinds := [], alts := [], laidByText := true, laidKinds := [.data, .data, .data, .data, .sentinel, .sentinel, .pinned], laidTests := true, laidLooks := .later }
def FlowFramesCardSaid : Prop := Claim7.holds Tryz.pinned (.plain (OpenSpec.ofChange flowFramesSpec)) flowFramesCard

/-- THE TIED CARD OF 'pentroughlaw14.FlowForms'. -/
def flowFormsCard : Claim7 := { stood := { row := flowFormsRow, standIns := [], harness := (true, "41a8296698deecf15b6e0e18dda082c6f11fbb33884ebfcdd4a59812635c79d4"), looks := true }, kinds := [], alts := [], laidByText := true, laidKinds := [.data, .data, .data, .data, .sentinel, .sentinel, .pinned], laidTests := true, laidLooks := .later }
def FlowFormsCardSaid : Prop := Claim7.holds Tryz.pinned (.plain (OpenSpec.ofChange flowFormsSpec)) flowFormsCard

/-- THE TIED CARD OF 'pentroughlaw14.FlowOnce'. -/
def flowOnceCard : Claim7 := { stood := { row := flowOnceRow, standIns := [], harness := (true, "41a8296698deecf15b6e0e18dda082c6f11fbb33884ebfcdd4a59812635c79d4"), looks := true }, kinds := [], alts := [], laidByText := true, laidKinds := [.data, .data, .data, .data, .sentinel, .sentinel, .pinned], laidTests := true, laidLooks := .later }
def FlowOnceCardSaid : Prop := Claim7.holds Tryz.pinned (.plain (OpenSpec.ofChange flowOnceSpec)) flowOnceCard

/-- THE TIED CARD OF 'pentroughlaw14.FlowApart'. -/
def flowApartCard : Claim7 := { stood := { row := flowApartRow, standIns := [], harness := (true, "41a8296698deecf15b6e0e18dda082c6f11fbb33884ebfcdd4a59812635c79d4"), looks := true }, kinds := [], alts := [], laidByText := true, laidKinds := [.data, .data, .data, .data, .sentinel, .sentinel, .pinned], laidTests := true, laidLooks := .later }
def FlowApartCardSaid : Prop := Claim7.holds Tryz.pinned (.plain (OpenSpec.ofChange flowApartSpec)) flowApartCard

/-- THE SECOND FORM's CARD OF 'pentroughlaw14.FlowIs'. -/
def flowIsUptoCard : Claim7 := { stood := { row := flowIsUptoRow, standIns := [], harness := (true, "41a8296698deecf15b6e0e18dda082c6f11fbb33884ebfcdd4a59812635c79d4"), looks := true }, kinds := [], alts := [], laidByText := true, laidKinds := [.data, .data, .data, .data, .sentinel, .sentinel, .pinned], laidTests := true, laidLooks := .later }
def FlowIsUptoCardSaid : Prop := Claim7.holds Tryz.pinned (.plain (OpenSpec.upto flowIsSpec)) flowIsUptoCard

/-- THE SECOND FORM's CARD OF 'pentroughlaw14.FlowFrames'. -/
def flowFramesUptoCard : Claim7 := { stood := { row := flowFramesUptoRow, standIns := [], harness := (true, "41a8296698deecf15b6e0e18dda082c6f11fbb33884ebfcdd4a59812635c79d4"), looks := true }, kinds := [], alts := [], laidByText := true, laidKinds := [.data, .data, .data, .data, .sentinel, .sentinel, .pinned], laidTests := true, laidLooks := .later }
def FlowFramesUptoCardSaid : Prop := Claim7.holds Tryz.pinned (.plain (OpenSpec.upto flowFramesSpec)) flowFramesUptoCard

/-- THE SECOND FORM's CARD OF 'pentroughlaw14.FlowForms'. -/
def flowFormsUptoCard : Claim7 := { stood := { row := flowFormsUptoRow, standIns := [], harness := (true, "41a8296698deecf15b6e0e18dda082c6f11fbb33884ebfcdd4a59812635c79d4"), looks := true }, kinds := [], alts := [], laidByText := true, laidKinds := [.data, .data, .data, .data, .sentinel, .sentinel, .pinned], laidTests := true, laidLooks := .later }
def FlowFormsUptoCardSaid : Prop := Claim7.holds Tryz.pinned (.plain (OpenSpec.upto flowFormsSpec)) flowFormsUptoCard

/-- THE SECOND FORM's CARD OF 'pentroughlaw14.FlowOnce'. -/
def flowOnceUptoCard : Claim7 := { stood := { row := flowOnceUptoRow, standIns := [], harness := (true, "41a8296698deecf15b6e0e18dda082c6f11fbb33884ebfcdd4a59812635c79d4"), looks := true }, kinds := [], alts := [], laidByText := true, laidKinds := [.data, .data, .data, .data, .sentinel, .sentinel, .pinned], laidTests := true, laidLooks := .later }
def FlowOnceUptoCardSaid : Prop := Claim7.holds Tryz.pinned (.plain (OpenSpec.upto flowOnceSpec)) flowOnceUptoCard

/-- THE SECOND FORM's CARD OF 'pentroughlaw14.FlowApart'. -/
def flowApartUptoCard : Claim7 := { stood := { row := flowApartUptoRow, standIns := [], harness := (true, "41a8296698deecf15b6e0e18dda082c6f11fbb33884ebfcdd4a59812635c79d4"), looks := true }, kinds := [], alts := [], laidByText := true, laidKinds := [.data, .data, .data, .data, .sentinel, .sentinel, .pinned], laidTests := true, laidLooks := .later }
def FlowApartUptoCardSaid : Prop := Claim7.holds Tryz.pinned (.plain (OpenSpec.upto flowApartSpec)) flowApartUptoCard
end Rows
end Go.Proofs.YtnlnkjaapdefiaaGreatDoor
