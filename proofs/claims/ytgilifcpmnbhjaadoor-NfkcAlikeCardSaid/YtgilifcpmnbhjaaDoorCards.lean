/-
  DERIVED. GIVEN WITH THE SEED: THE CARDS: each row of YtgilifcpmnbhjaaDoorRows.lean that lists a variable, with what it lists TIED to the program's text (the seventh form; the later family's looks); each row that meets fmt, with fmt's text TOLD by the authors' own Lean function (tested against real Go, not proved from fmt's source: count such statements apart). THE CARD IS WHAT COUNTS. Prove the row's statement (the work); the ties are given (YtgilifcpmnbhjaaDoorTie.lean); close each card by the builder's one call (the guide's Derived/Test/ToyasCard.lean, 'card_holds'). Laid BY PROGRAM, IN A SANDBOX (cutbox-door.mjs). By AI agents, Wed Nov 11 2026. No macro, syntax, notation, axiom, sorry.
-/
import Derived.Test.YtgilifcpmnbhjaaDoorRows
import GoSem.ClaimSeven
namespace Go.Proofs.YtgilifcpmnbhjaaDoor
namespace Rows

/-- THE TIED CARD OF 'pentroughlaw08.NfkcIs'. -/
def nfkcIsCard : Claim7 := { stood := { row := nfkcIsRow, standIns := [], harness := (true, "4ceec19a9e976ad62bc792909f1735a066888125e9dc1bb7190d782208a0544c"), looks := true }, kinds := [], alts := [], laidByText := true, laidKinds := [.data, .data, .data, .sentinel, .sentinel], laidTests := true, laidLooks := .later }
def NfkcIsCardSaid : Prop := Claim7.holds Tryd.pinned (.plain (OpenSpec.ofChange nfkcIsSpec)) nfkcIsCard

/-- THE TIED CARD OF 'pentroughlaw08.NfkcOnce'. -/
def nfkcOnceCard : Claim7 := { stood := { row := nfkcOnceRow, standIns := [], harness := (true, "4ceec19a9e976ad62bc792909f1735a066888125e9dc1bb7190d782208a0544c"), looks := true }, kinds := [], alts := [], laidByText := true, laidKinds := [.data, .data, .data, .sentinel, .sentinel], laidTests := true, laidLooks := .later }
def NfkcOnceCardSaid : Prop := Claim7.holds Tryd.pinned (.plain (OpenSpec.ofChange nfkcOnceSpec)) nfkcOnceCard

/-- THE TIED CARD OF 'pentroughlaw08.NfkcSafe'. -/
def nfkcSafeCard : Claim7 := { stood := { row := nfkcSafeRow, standIns := [], harness := (true, "4ceec19a9e976ad62bc792909f1735a066888125e9dc1bb7190d782208a0544c"), looks := true }, kinds := [], alts := [], laidByText := true, laidKinds := [.data, .data, .data, .sentinel, .sentinel], laidTests := true, laidLooks := .later }
def NfkcSafeCardSaid : Prop := Claim7.holds Tryd.pinned (.plain (OpenSpec.ofChange nfkcSafeSpec)) nfkcSafeCard

/-- THE TIED CARD OF 'pentroughlaw08.NfkcAlike'. -/
def nfkcAlikeCard : Claim7 := { stood := { row := nfkcAlikeRow, standIns := [], harness := (true, "4ceec19a9e976ad62bc792909f1735a066888125e9dc1bb7190d782208a0544c"), looks := true }, kinds := [], alts := [], laidByText := true, laidKinds := [.data, .data, .data, .sentinel, .sentinel], laidTests := true, laidLooks := .later }
def NfkcAlikeCardSaid : Prop := Claim7.holds Tryd.pinned (.plain (OpenSpec.ofChange nfkcAlikeSpec)) nfkcAlikeCard

/-- THE TIED CARD OF 'pentroughlaw08.NfkcRows'. -/
def nfkcRowsCard : Claim7 := { stood := { row := nfkcRowsRow, standIns := [], harness := (true, "4ceec19a9e976ad62bc792909f1735a066888125e9dc1bb7190d782208a0544c"), looks := true }, kinds := [], alts := [], laidByText := true, laidKinds := [.data, .data, .data, .sentinel, .sentinel], laidTests := true, laidLooks := .later }
def NfkcRowsCardSaid : Prop := Claim7.holds Tryd.pinned (.plain (OpenSpec.ofChange nfkcRowsSpec)) nfkcRowsCard

/-- THE TIED CARD OF 'pentroughlaw08.NfkcAscii'. -/
def nfkcAsciiCard : Claim7 := { stood := { row := nfkcAsciiRow, standIns := [], harness := (true, "4ceec19a9e976ad62bc792909f1735a066888125e9dc1bb7190d782208a0544c"), looks := true }, kinds := [], alts := [], laidByText := true, laidKinds := [.data, .data, .data, .sentinel, .sentinel], laidTests := true, laidLooks := .later }
def NfkcAsciiCardSaid : Prop := Claim7.holds Tryd.pinned (.plain (OpenSpec.ofChange nfkcAsciiSpec)) nfkcAsciiCard

/-- THE SECOND FORM's CARD OF 'pentroughlaw08.NfkcIs'. -/
def nfkcIsUptoCard : Claim7 := { stood := { row := nfkcIsUptoRow, standIns := [], harness := (true, "4ceec19a9e976ad62bc792909f1735a066888125e9dc1bb7190d782208a0544c"), looks := true }, kinds := [], alts := [], laidByText := true, laidKinds := [.data, .data, .data, .sentinel, .sentinel], laidTests := true, laidLooks := .later }
def NfkcIsUptoCardSaid : Prop := Claim7.holds Tryd.pinned (.plain (OpenSpec.upto nfkcIsSpec)) nfkcIsUptoCard

/-- THE SECOND FORM's CARD OF 'pentroughlaw08.NfkcOnce'. -/
def nfkcOnceUptoCard : Claim7 := { stood := { row := nfkcOnceUptoRow, standIns := [], harness := (true, "4ceec19a9e976ad62bc792909f1735a066888125e9dc1bb7190d782208a0544c"), looks := true }, kinds := [], alts := [], laidByText := true, laidKinds := [.data, .data, .data, .sentinel, .sentinel], laidTests := true, laidLooks := .later }
def NfkcOnceUptoCardSaid : Prop := Claim7.holds Tryd.pinned (.plain (OpenSpec.upto nfkcOnceSpec)) nfkcOnceUptoCard

/-- THE SECOND FORM's CARD OF 'pentroughlaw08.NfkcSafe'. -/
def nfkcSafeUptoCard : Claim7 := { stood := { row := nfkcSafeUptoRow, standIns := [], harness := (true, "4ceec19a9e976ad62bc792909f1735a066888125e9dc1bb7190d782208a0544c"), looks := true }, kinds := [], alts := [], laidByText := true, laidKinds := [.data, .data, .data, .sentinel, .sentinel], laidTests := true, laidLooks := .later }
def NfkcSafeUptoCardSaid : Prop := Claim7.holds Tryd.pinned (.plain (OpenSpec.upto nfkcSafeSpec)) nfkcSafeUptoCard

/-- THE SECOND FORM's CARD OF 'pentroughlaw08.NfkcAlike'. -/
def nfkcAlikeUptoCard : Claim7 := { stood := { row := nfkcAlikeUptoRow, standIns := [], harness := (true, "4ceec19a9e976ad62bc792909f1735a066888125e9dc1bb7190d782208a0544c"), looks := true }, kinds := [], alts := [], laidByText := true, laidKinds := [.data, .data, .data, .sentinel, .sentinel], laidTests := true, laidLooks := .later }
def NfkcAlikeUptoCardSaid : Prop := Claim7.holds Tryd.pinned (.plain (OpenSpec.upto nfkcAlikeSpec)) nfkcAlikeUptoCard

/-- THE SECOND FORM's CARD OF 'pentroughlaw08.NfkcRows'. -/
def nfkcRowsUptoCard : Claim7 := { stood := { row := nfkcRowsUptoRow, standIns := [], harness := (true, "4ceec19a9e976ad62bc792909f1735a066888125e9dc1bb7190d782208a0544c"), looks := true }, kinds := [], alts := [], laidByText := true, laidKinds := [.data, .data, .data, .sentinel, .sentinel], laidTests := true, laidLooks := .later }
def NfkcRowsUptoCardSaid : Prop := Claim7.holds Tryd.pinned (.plain (OpenSpec.upto nfkcRowsSpec)) nfkcRowsUptoCard

/-- THE SECOND FORM's CARD OF 'pentroughlaw08.NfkcAscii'. -/
def nfkcAsciiUptoCard : Claim7 := { stood := { row := nfkcAsciiUptoRow, standIns := [], harness := (true, "4ceec19a9e976ad62bc792909f1735a066888125e9dc1bb7190d782208a0544c"), looks := true }, kinds := [], alts := [], laidByText := true, laidKinds := [.data, .data, .data, .sentinel, .sentinel], laidTests := true, laidLooks := .later }
def NfkcAsciiUptoCardSaid : Prop := Claim7.holds Tryd.pinned (.plain (OpenSpec.upto nfkcAsciiSpec)) nfkcAsciiUptoCard
end Rows
end Go.Proofs.YtgilifcpmnbhjaaDoor
