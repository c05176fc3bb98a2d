/-
  DERIVED. GIVEN WITH THE SEED: THE CARDS: each row of YtgahfbcdnbhikaaDoorRows.lean that lists a variable, with what it lists TIED to the program's text (the seventh form; the later family's looks); each row that meets fmt, with fmt's text TOLD by the authors' own Lean function (tested against real Go, not proved from fmt's source: count such statements apart). THE CARD IS WHAT COUNTS. Prove the row's statement (the work); the ties are given (YtgahfbcdnbhikaaDoorTie.lean); close each card by the builder's one call (the guide's Derived/Test/ToyasCard.lean, 'card_holds'). Laid BY PROGRAM, IN A SANDBOX (cutbox-door.mjs). By AI agents, Wed Nov 11 2026. No macro, syntax, notation, axiom, sorry.
-/
import Derived.Test.YtgahfbcdnbhikaaDoorRows
import GoSem.ClaimSeven
namespace Go.Proofs.YtgahfbcdnbhikaaDoor
namespace Rows

/-- THE TIED CARD OF 'pentroughlaw05.PairIs'. -/
def pairIsCard : Claim7 := { stood := { row := pairIsRow, standIns := [], harness := (true, "cad229c9ab26ffc3923f90754eb1c910d1482f5d4051318b496d42cb979e5e39"), looks := true }, kinds := [], alts := [], laidByText := true, laidKinds := [.data, .data, .data, .sentinel, .sentinel], laidTests := true, laidLooks := .later }
def PairIsCardSaid : Prop := Claim7.holds Tryd.pinned (.plain (OpenSpec.ofChange pairIsSpec)) pairIsCard

/-- THE TIED CARD OF 'pentroughlaw05.PairBack'. -/
def pairBackCard : Claim7 := { stood := { row := pairBackRow, standIns := [], harness := (true, "cad229c9ab26ffc3923f90754eb1c910d1482f5d4051318b496d42cb979e5e39"), looks := true }, kinds := [], alts := [], laidByText := true, laidKinds := [.data, .data, .data, .sentinel, .sentinel], laidTests := true, laidLooks := .later }
def PairBackCardSaid : Prop := Claim7.holds Tryd.pinned (.plain (OpenSpec.ofChange pairBackSpec)) pairBackCard

/-- THE TIED CARD OF 'pentroughlaw05.PairMade'. -/
def pairMadeCard : Claim7 := { stood := { row := pairMadeRow, standIns := [], harness := (true, "cad229c9ab26ffc3923f90754eb1c910d1482f5d4051318b496d42cb979e5e39"), looks := true }, kinds := [], alts := [], laidByText := true, laidKinds := [.data, .data, .data, .sentinel, .sentinel], laidTests := true, laidLooks := .later }
def PairMadeCardSaid : Prop := Claim7.holds Tryd.pinned (.plain (OpenSpec.ofChange pairMadeSpec)) pairMadeCard

/-- THE TIED CARD OF 'pentroughlaw05.PairNone'. -/
def pairNoneCard : Claim7 := { stood := { row := pairNoneRow, standIns := [], harness := (true, "cad229c9ab26ffc3923f90754eb1c910d1482f5d4051318b496d42cb979e5e39"), looks := true }, kinds := [], alts := [], laidByText := true, laidKinds := [.data, .data, .data, .sentinel, .sentinel], laidTests := true, laidLooks := .later }
def PairNoneCardSaid : Prop := Claim7.holds Tryd.pinned (.plain (OpenSpec.ofChange pairNoneSpec)) pairNoneCard

/-- THE SECOND FORM's CARD OF 'pentroughlaw05.PairIs'. -/
def pairIsUptoCard : Claim7 := { stood := { row := pairIsUptoRow, standIns := [], harness := (true, "cad229c9ab26ffc3923f90754eb1c910d1482f5d4051318b496d42cb979e5e39"), looks := true }, kinds := [], alts := [], laidByText := true, laidKinds := [.data, .data, .data, .sentinel, .sentinel], laidTests := true, laidLooks := .later }
def PairIsUptoCardSaid : Prop := Claim7.holds Tryd.pinned (.plain (OpenSpec.upto pairIsSpec)) pairIsUptoCard

/-- THE SECOND FORM's CARD OF 'pentroughlaw05.PairBack'. -/
def pairBackUptoCard : Claim7 := { stood := { row := pairBackUptoRow, standIns := [], harness := (true, "cad229c9ab26ffc3923f90754eb1c910d1482f5d4051318b496d42cb979e5e39"), looks := true }, kinds := [], alts := [], laidByText := true, laidKinds := [.data, .data, .data, .sentinel, .sentinel], laidTests := true, laidLooks := .later }
def PairBackUptoCardSaid : Prop := Claim7.holds Tryd.pinned (.plain (OpenSpec.upto pairBackSpec)) pairBackUptoCard

/-- THE SECOND FORM's CARD OF 'pentroughlaw05.PairMade'. -/
def pairMadeUptoCard : Claim7 := { stood := { row := pairMadeUptoRow, standIns := [], harness := (true, "cad229c9ab26ffc3923f90754eb1c910d1482f5d4051318b496d42cb979e5e39"), looks := true }, kinds := [], alts := [], laidByText := true, laidKinds := [.data, .data, .data, .sentinel, .sentinel], laidTests := true, laidLooks := .later }
def PairMadeUptoCardSaid : Prop := Claim7.holds Tryd.pinned (.plain (OpenSpec.upto pairMadeSpec)) pairMadeUptoCard

/-- THE SECOND FORM's CARD OF 'pentroughlaw05.PairNone'. -/
def pairNoneUptoCard : Claim7 := { stood := { row := pairNoneUptoRow, standIns := [], harness := (true, "cad229c9ab26ffc3923f90754eb1c910d1482f5d4051318b496d42cb979e5e39"), looks := true }, kinds := [], alts := [], laidByText := true, laidKinds := [.data, .data, .data, .sentinel, .sentinel], laidTests := true, laidLooks := .later }
def PairNoneUptoCardSaid : Prop := Claim7.holds Tryd.pinned (.plain (OpenSpec.upto pairNoneSpec)) pairNoneUptoCard
end Rows
end Go.Proofs.YtgahfbcdnbhikaaDoor
