/-
  DERIVED. GIVEN WITH THE SEED: THE CARDS: each row of YtkofnpkopbnocaaGreatDoorRows.lean that lists a variable, with what it lists TIED to the program's text (the seventh form; the later family's looks); each row that meets fmt, with fmt's text TOLD by the authors' own Lean function (tested against real Go, not proved from fmt's source: count such statements apart). THE CARD IS WHAT COUNTS. Prove the row's statement (the work); the ties are given (YtkofnpkopbnocaaGreatDoorTie.lean); close each card by the builder's one call (the guide's Derived/Test/ToyasCard.lean, 'card_holds'). Laid BY PROGRAM, IN A SANDBOX (cutbox-door.mjs). By AI agents, Wed Nov 11 2026. No macro, syntax, notation, axiom, sorry.
-/
import Derived.Test.YtkofnpkopbnocaaGreatDoorRows
import GoSem.ClaimSeven
namespace Go.Proofs.YtkofnpkopbnocaaGreatDoor
namespace Rows

/-- THE TIED CARD OF 'pentroughlaw17.StageIs'. -/
def stageIsCard : Claim7 := { stood := { row := stageIsRow, standIns := [], harness := (true, "01674c098cb2f6ead1be1a17fc065e108c25efd16b9ff3cbd0e55aec08114a10"), looks := true }, kinds := [], alts := [], laidByText := true, laidKinds := [.data, .data, .data, .data, .sentinel, .sentinel, .pinned], laidTests := true, laidLooks := .later }
def StageIsCardSaid : Prop := Claim7.holds Tryz.pinned (.plain (OpenSpec.ofChange stageIsSpec)) stageIsCard

/-- THE TIED CARD OF 'pentroughlaw17.StageAll'. -/
def stageAllCard : Claim7 := { stood := { row := stageAllRow, standIns := [], harness := (true, "01674c098cb2f6ead1be1a17fc065e108c25efd16b9ff3cbd0e55aec08114a10"), looks := true }, kinds := [], alts := [], laidByText := true, laidKinds := [.data, .data, .data, .data, .sentinel, .sentinel, .pinned], laidTests := true, laidLooks := .later }
def StageAllCardSaid : Prop := Claim7.holds Tryz.pinned (.plain (OpenSpec.ofChange stageAllSpec)) stageAllCard

/-- THE TIED CARD OF 'pentroughlaw17.StageKeeps'. -/
def stageKeepsCard : Claim7 := { stood := { row := stageKeepsRow, standIns := [], harness := (true, "01674c098cb2f6ead1be1a17fc065e108c25efd16b9ff3cbd0e55aec08114a10"), looks := true }, kinds := [], alts := [], laidByText := true, laidKinds := [.data, .data, .data, .data, .sentinel, .sentinel, .pinned], laidTests := true, laidLooks := .later }
def StageKeepsCardSaid : Prop := Claim7.holds Tryz.pinned (.plain (OpenSpec.ofChange stageKeepsSpec)) stageKeepsCard

/-- THE TIED CARD OF 'pentroughlaw17.StageWaits'. -/
def stageWaitsCard : Claim7 := { stood := { row := stageWaitsRow, standIns := [], harness := (true, "01674c098cb2f6ead1be1a17fc065e108c25efd16b9ff3cbd0e55aec08114a10"), looks := true }, kinds := [], alts := [], laidByText := true, laidKinds := [.data, .data, .data, .data, .sentinel, .sentinel, .pinned], laidTests := true, laidLooks := .later }
def StageWaitsCardSaid : Prop := Claim7.holds Tryz.pinned (.plain (OpenSpec.ofChange stageWaitsSpec)) stageWaitsCard

/-- THE TIED CARD OF 'pentroughlaw17.StageOnce'. -/
def stageOnceCard : Claim7 := { stood := { row := stageOnceRow, standIns := [], harness := (true, "01674c098cb2f6ead1be1a17fc065e108c25efd16b9ff3cbd0e55aec08114a10"), looks := true }, kinds := [], alts := [], laidByText := true, laidKinds := [.data, .data, .data, .data, .sentinel, .sentinel, .pinned], laidTests := true, laidLooks := .later }
def StageOnceCardSaid : Prop := Claim7.holds Tryz.pinned (.plain (OpenSpec.ofChange stageOnceSpec)) stageOnceCard

/-- THE TIED CARD OF 'pentroughlaw17.StageOthers'. -/
def stageOthersCard : Claim7 := { stood := { row := stageOthersRow, standIns := [], harness := (true, "01674c098cb2f6ead1be1a17fc065e108c25efd16b9ff3cbd0e55aec08114a10"), looks := true }, kinds := [], alts := [], laidByText := true, laidKinds := [.data, .data, .data, .data, .sentinel, .sentinel, .pinned], laidTests := true, laidLooks := .later }
def StageOthersCardSaid : Prop := Claim7.holds Tryz.pinned (.plain (OpenSpec.ofChange stageOthersSpec)) stageOthersCard

/-- THE SECOND FORM's CARD OF 'pentroughlaw17.StageIs'. -/
def stageIsUptoCard : Claim7 := { stood := { row := stageIsUptoRow, standIns := [], harness := (true, "01674c098cb2f6ead1be1a17fc065e108c25efd16b9ff3cbd0e55aec08114a10"), looks := true }, kinds := [], alts := [], laidByText := true, laidKinds := [.data, .data, .data, .data, .sentinel, .sentinel, .pinned], laidTests := true, laidLooks := .later }
def StageIsUptoCardSaid : Prop := Claim7.holds Tryz.pinned (.plain (OpenSpec.upto stageIsSpec)) stageIsUptoCard

/-- THE SECOND FORM's CARD OF 'pentroughlaw17.StageAll'. -/
def stageAllUptoCard : Claim7 := { stood := { row := stageAllUptoRow, standIns := [], harness := (true, "01674c098cb2f6ead1be1a17fc065e108c25efd16b9ff3cbd0e55aec08114a10"), looks := true }, kinds := [], alts := [], laidByText := true, laidKinds := [.data, .data, .data, .data, .sentinel, .sentinel, .pinned], laidTests := true, laidLooks := .later }
def StageAllUptoCardSaid : Prop := Claim7.holds Tryz.pinned (.plain (OpenSpec.upto stageAllSpec)) stageAllUptoCard

/-- THE SECOND FORM's CARD OF 'pentroughlaw17.StageKeeps'. -/
def stageKeepsUptoCard : Claim7 := { stood := { row := stageKeepsUptoRow, standIns := [], harness := (true, "01674c098cb2f6ead1be1a17fc065e108c25efd16b9ff3cbd0e55aec08114a10"), looks := true }, kinds := [], alts := [], laidByText := true, laidKinds := [.data, .data, .data, .data, .sentinel, .sentinel, .pinned], laidTests := true, laidLooks := .later }
def StageKeepsUptoCardSaid : Prop := Claim7.holds Tryz.pinned (.plain (OpenSpec.upto stageKeepsSpec)) stageKeepsUptoCard

/-- THE SECOND FORM's CARD OF 'pentroughlaw17.StageWaits'. -/
def stageWaitsUptoCard : Claim7 := { stood := { row := stageWaitsUptoRow, standIns := [], harness := (true, "01674c098cb2f6ead1be1a17fc065e108c25efd16b9ff3cbd0e55aec08114a10"), looks := true }, kinds := [], alts := [], laidByText := true, laidKinds := [.data, .data, .data, .data, .sentinel, .sentinel, .pinned], laidTests := true, laidLooks := .later }
def StageWaitsUptoCardSaid : Prop := Claim7.holds Tryz.pinned (.plain (OpenSpec.upto stageWaitsSpec)) stageWaitsUptoCard

/-- THE SECOND FORM's CARD OF 'pentroughlaw17.StageOnce'. -/
def stageOnceUptoCard : Claim7 := { stood := { row := stageOnceUptoRow, standIns := [], harness := (true, "01674c098cb2f6ead1be1a17fc065e108c25efd16b9ff3cbd0e55aec08114a10"), looks := true }, kinds := [], alts := [], laidByText := true, laidKinds := [.data, .data, .data, .data, .sentinel, .sentinel, .pinned], laidTests := true, laidLooks := .later }
def StageOnceUptoCardSaid : Prop := Claim7.holds Tryz.pinned (.plain (OpenSpec.upto stageOnceSpec)) stageOnceUptoCard

/-- THE SECOND FORM's CARD OF 'pentroughlaw17.StageOthers'. -/
def stageOthersUptoCard : Claim7 := { stood := { row := stageOthersUptoRow, standIns := [], harness := (true, "01674c098cb2f6ead1be1a17fc065e108c25efd16b9ff3cbd0e55aec08114a10"), looks := true }, kinds := [], alts := [], laidByText := true, laidKinds := [.data, .data, .data, .data, .sentinel, .sentinel, .pinned], laidTests := true, laidLooks := .later }
def StageOthersUptoCardSaid : Prop := Claim7.holds Tryz.pinned (.plain (OpenSpec.upto stageOthersSpec)) stageOthersUptoCard
end Rows
end Go.Proofs.YtkofnpkopbnocaaGreatDoor
