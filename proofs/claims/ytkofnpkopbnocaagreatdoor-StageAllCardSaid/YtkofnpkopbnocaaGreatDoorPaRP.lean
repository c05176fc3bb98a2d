import Derived.Test.YtkofnpkopbnocaaGreatDoorPaP
import Derived.Test.YtkofnpkopbnocaaGreatDoorBasP
import Derived.Test.YtkofnpkopbnocaaGreatDoorMthP
import Derived.KernelRfl
import Derived.Deep.LoopGhost
import Derived.Deep.DeepCutAuto
namespace Go.Proofs.YtkofnpkopbnocaaGreatDoor
set_option linter.unusedSimpArgs false
set_option linter.unusedVariables false
open Go.RowKit Go.Lib
namespace Par
def first(q:Int→Int→Int→Bool):List (Int × Int × Int)→Int × Int × Int
 | []=>(0,0,0)
 | s::t=>if q s.1 s.2.1 s.2.2=true then s else first q t
end Par
end Go.Proofs.YtkofnpkopbnocaaGreatDoor
