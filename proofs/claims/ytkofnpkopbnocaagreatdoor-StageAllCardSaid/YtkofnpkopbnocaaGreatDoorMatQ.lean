import Derived.Test.YtkofnpkopbnocaaGreatDoorMatP
namespace Go.Proofs.YtkofnpkopbnocaaGreatDoor.Flw
set_option linter.unusedSimpArgs false
set_option linter.unusedVariables false
open Prp (mrkB cccI drpB gcbI)
open Dcp (fullI)
open Par (joinI)
open Can Nfk Fol
def X39(b:List UInt8):List Int:=nfkcI (leftI (nfkcI (Dec.allL b)))
def Whole(w:Int):Prop:=fullI w= [w]∨∃h r,joinI h r=some w
def Xfu(q:Int):Bool:=decide (Cas.foldI q= [q])
def rowB(s:Int × List Int):Bool:= !((fullI s.1).all Xfu) || decide (madeI s.2=fullI s.1)
end Go.Proofs.YtkofnpkopbnocaaGreatDoor.Flw
