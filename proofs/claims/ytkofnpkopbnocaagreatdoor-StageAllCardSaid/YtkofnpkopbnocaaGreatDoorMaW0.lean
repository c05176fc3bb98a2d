import Derived.Test.YtkofnpkopbnocaaGreatDoorMaS
namespace Go.Proofs.YtkofnpkopbnocaaGreatDoor
set_option linter.unusedSimpArgs false
set_option linter.unusedVariables false
open Go.RowKit Go.Lib
open Mch (MS)
theorem X6J(w:World)(o1 o2 o3:Obj):Below w.heap.size w (((w.alloc o1).alloc o2).alloc o3):=((X04 w o1).alloc (by simp) o2).alloc (by simp;omega) o3
theorem Mch.small_new(k:Int):Mch.Small (Mch.newM k):=⟨by simp [Mch.newM,Mch.bare],by simp [Mch.newM,Mch.bare],by simp [Mch.newM,Mch.bare],by simp [Mch.newM,Mch.bare]⟩
theorem Mch.small_sane{m:MS}(h:Mch.saneM m=true):Mch.Small m:=by
 have:=Mch.Xjl ((Mch.X1b m).1 h)
 exact⟨by omega,by omega,by omega,by omega⟩
end Go.Proofs.YtkofnpkopbnocaaGreatDoor
