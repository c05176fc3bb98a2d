import Derived.Test.YtkofnpkopbnocaaGreatDoorMthP
import Derived.Test.YtkofnpkopbnocaaGreatDoorBasP
import Derived.Shelf.SlSortCmp.KitK
import Derived.Sort.WalkB2
import Derived.Sort.WalkB12
import Derived.Deep.LoopGhost
set_option linter.unusedSimpArgs false
set_option linter.unusedVariables false
namespace Go.Proofs.YtkofnpkopbnocaaGreatDoor
open Go.Shelf Go.RowKit Go.Lib Go.Sort
open Stb
structure Prg (P:Program) (k:Nat):Prop where
 mixed:P.follows .mixedOrders=true
 t0:P.underlying 0=some (TypeDesc.tuple #[])
 a0: ∀w,(isAgg 0).run P w= .ok false w
 z0: ∀w,(Go.sizeOf 0).run P w= .ok 1 w
 v0: ∀w,(zeroValue 0).run P w= .ok (Value.tuple #[]) w
 t3:P.underlying 3=some (TypeDesc.int IntKind.i64)
 a3: ∀w,(isAgg 3).run P w= .ok false w
 z3: ∀w,(Go.sizeOf 3).run P w= .ok 1 w
 v3: ∀w,(zeroValue 3).run P w= .ok (Value.int IntKind.i64 0) w
 t4:P.underlying 4=some (TypeDesc.bool)
 a4: ∀w,(isAgg 4).run P w= .ok false w
 z4: ∀w,(Go.sizeOf 4).run P w= .ok 1 w
 v4: ∀w,(zeroValue 4).run P w= .ok (Value.bool false) w
 tU:P.underlying 186=some (TypeDesc.int IntKind.u64)
 tS:P.underlying 155=some (TypeDesc.slice 157)
 aS: ∀w,(isAgg 155).run P w= .ok false w
 zS: ∀w,(Go.sizeOf 155).run P w= .ok 1 w
 vS: ∀w,(zeroValue 155).run P w= .ok (Value.slice none 0 0) w
 tF:P.underlying 159=some (TypeDesc.func #[157,157] #[3] false)
 aF: ∀w,(isAgg 159).run P w= .ok false w
 zF: ∀w,(Go.sizeOf 159).run P w= .ok 1 w
 vF: ∀w,(zeroValue 159).run P w= .ok (Value.nilFunc) w
 aE: ∀w,(isAgg 157).run P w= .ok true w
 zE: ∀w,(Go.sizeOf 157).run P w= .ok k w
abbrev SP(enc:El→List Value)(k:Nat)(w0:World)(blk off:Nat)(d:Array El)(w:World):Prop:=SWK enc k w0 blk off d w
abbrev RP(enc:El→List Value)(k:Nat)(w0:World)(blk off:Nat)(d0:Array El):Prop:=RowK enc k w0 blk off d0
variable {P:Program} {k:Nat}
end Go.Proofs.YtkofnpkopbnocaaGreatDoor
