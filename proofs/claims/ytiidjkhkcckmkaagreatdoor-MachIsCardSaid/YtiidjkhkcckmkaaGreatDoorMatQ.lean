/- Texts that stand together. -/
import Derived.Test.YtiidjkhkcckmkaaGreatDoorMatP
/- Layer 14, plain mathematics: what the tables say of each other. -/
namespace Go.Proofs.YtiidjkhkcckmkaaGreatDoor.Flw
set_option linter.unusedSimpArgs false
set_option linter.unusedVariables false
open Prp (mrkB cccI drpB gcbI)
open Dcp (fullI)
open Par (joinI)
open Can Nfk Fol
def Whole (w : Int) : Prop := fullI w = [w] ∨ ∃ h r, joinI h r = some w
end Go.Proofs.YtiidjkhkcckmkaaGreatDoor.Flw

