import Derived.Test.YtkofnpkopbnocaaGreatDoorMaS
set_option maxRecDepth 100000
set_option maxHeartbeats 3200000
namespace Go.Proofs.YtkofnpkopbnocaaGreatDoor
set_option linter.unusedSimpArgs false
set_option linter.unusedVariables false
open Go.RowKit Go.Lib
open Mch (MS)
theorem X6J(w:World)(o1 o2 o3:Obj):Below w.heap.size w (((w.alloc o1).alloc o2).alloc o3):=((X04 w o1).alloc (by simp) o2).alloc (by simp;omega) o3
def fewB(d n g c:Nat):Bool:=decide (d≤10) && decide (n≤60) && decide (g≤60) && decide (c≤60)
theorem XdS(k:Int)(S:ByteArray)(pn:Option Addr)(n cn:Nat)(pg:Option Addr)(g cg:Nat)(on:Bool)(kd:Int)(pi od:Bool)(pc:Option Addr)(c cc:Nat)(w:World):
 Calls Tryz.prog 59 #[.agg (X25 k S pn n cn pg g cg on kd pi od pc c cc)] w fun e w'=>e= .returned (.bool (fewB S.size n g c))∧Below w.heap.size w w':=by
 unfold X25
 have hb:=hid (fun o=>X04 w o)
 by_cases h1:S.size≤10
 ·have t1:decide ((S.size:Int)≤10)=true:=decide_eq_true (by omega)
  by_cases h2:n≤60
  ·have t2:decide ((n:Int)≤60)=true:=decide_eq_true (by omega)
   by_cases h3:g≤60
   ·have t3:decide ((g:Int)≤60)=true:=decide_eq_true (by omega)
    by_cases h4:c≤60
    ·have t4:decide ((c:Int)≤60)=true:=decide_eq_true (by omega)
     have hf:fewB S.size n g c=true:=by unfold fewB;simp [h1,h2,h3,h4]
     rw[hf]
     clear hf
     go_enter Tryz.func59,Tryz.ntmps59
     go_wp2_with fail
     go_ret
     exact⟨rfl,hb.out _⟩
    ·have t4:decide ((c:Int)≤60)=false:=decide_eq_false (by omega)
     have hf:fewB S.size n g c=false:=by unfold fewB;simp [h4]
     rw[hf]
     clear hf
     go_enter Tryz.func59,Tryz.ntmps59
     go_wp2_with fail
     go_ret
     exact⟨rfl,hb.out _⟩
   ·have t3:decide ((g:Int)≤60)=false:=decide_eq_false (by omega)
    have hf:fewB S.size n g c=false:=by unfold fewB;simp [h3]
    rw[hf]
    clear hf
    go_enter Tryz.func59,Tryz.ntmps59
    go_wp2_with fail
    go_ret
    exact⟨rfl,hb.out _⟩
  ·have t2:decide ((n:Int)≤60)=false:=decide_eq_false (by omega)
   have hf:fewB S.size n g c=false:=by unfold fewB;simp [h2]
   rw[hf]
   clear hf
   go_enter Tryz.func59,Tryz.ntmps59
   go_wp2_with fail
   go_ret
   exact⟨rfl,hb.out _⟩
 ·have t1:decide ((S.size:Int)≤10)=false:=decide_eq_false (by omega)
  have hf:fewB S.size n g c=false:=by unfold fewB;simp [h1]
  rw[hf]
  clear hf
  go_enter Tryz.func59,Tryz.ntmps59
  go_wp2_with fail
  go_ret
  exact⟨rfl,hb.out _⟩
theorem Mch.small_new(k:Int):Mch.Small (Mch.newM k):=⟨by simp [Mch.newM,Mch.bare],by simp [Mch.newM,Mch.bare],by simp [Mch.newM,Mch.bare],by simp [Mch.newM,Mch.bare]⟩
theorem Mch.small_sane{m:MS}(h:Mch.saneM m=true):Mch.Small m:=by
 have:=Mch.Xjl ((Mch.X1b m).1 h)
 exact⟨by omega,by omega,by omega,by omega⟩
end Go.Proofs.YtkofnpkopbnocaaGreatDoor
