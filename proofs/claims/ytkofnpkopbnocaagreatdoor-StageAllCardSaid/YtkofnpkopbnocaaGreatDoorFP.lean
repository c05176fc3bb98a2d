import Derived.Test.YtkofnpkopbnocaaGreatDoorBasP
import Derived.WalkKit
import Derived.ProofKit
import Derived.OpenShut
import Derived.ShutString
import Derived.ChangeOld
import Derived.Below
import Derived.Lib.SmallJoins
set_option maxRecDepth 100000
namespace Go.Proofs.YtkofnpkopbnocaaGreatDoor
set_option linter.unusedSimpArgs false
set_option linter.unusedVariables false
open Go.ChangeShapes Go.WideShapes Go.ChangeAt Go.RowKit
open Go.ChangeMaps (open_string shut_string)
theorem own:ownKnob Tryz.prog.godebug=none:=by kernel_rfl
theorem X0j:laidOutB Tryz.prog=true:=by kernel_rfl
section
variable {H:Type} {enc:TypeId × Value→H} {W:World} {b0:Nat} {r:Reach}
theorem X0C{v:Value}{d:DataW H}{p:List MemPlace}(hv:Value.okWide Tryz.prog W r b0 3 v)(h:DataW.Trod enc Tryz.prog W 0 (fun _=>true) true 3 v d p): ∃n:Int,v= .int .i64 n∧(-9223372036854775808≤n∧n≤9223372036854775807):=by
 obtain⟨n,rfl,rfl,rfl,w1⟩:=open_int Tryz.underlying3 hv h
 exact⟨n,rfl,bounds_i64 w1⟩
end
section
variable {H:Type} {enc:TypeId × Value→H} {W:World} {b0:Nat} {r:Reach}
theorem X0G{v:Value}{d:DataW H}{p:List MemPlace}(hv:Value.okWide Tryz.prog W r b0 24 v)(h:DataW.Trod enc Tryz.prog W 0 (fun _=>true) true 24 v d p): ∃l:List Int,RI W v l∧∀x∈l,-9223372036854775808≤x∧x≤9223372036854775807:=by
 obtain⟨a0,g,j,rfl⟩:=okWide_slice Tryz.underlying24 hv
 obtain⟨fuel,hf⟩:=h
 rcases open_ints Tryz.underlying24 Tryz.underlying3 (by kernel_rfl) hf with⟨e,_⟩ | ⟨x,l,c,zs,e,_,hl,hm,hz,_,a,s⟩
 ·simp [Value.cells] at e
  obtain⟨rfl,rfl,rfl⟩:=e
  exact⟨[], .inl ⟨rfl,rfl⟩,fun x hx=>by cases hx⟩
 ·simp [Value.cells] at e
  obtain⟨rfl,rfl,rfl⟩:=e
  have t:zs.length=j:=by simpa using hz
  have f:(zs.take g).length=g:=by rw[List.length_take];omega
  refine⟨zs.take g, .inr ⟨x,j,by rw[f],by omega,fun h0=>?_⟩,fun y hy=>bounds_i64 (s y (List.mem_of_mem_take hy))⟩
  rw[f] at h0
  have n:=a 0 (by omega)
  obtain⟨b,off,q⟩:=x
  have k:q=none:=by simpa [Addr.add] using World.cell?_spot n
  subst k
  refine⟨b,off,rfl,?_,fun i hi=>?_⟩
  ·exact World.block_lt_of_cell? _ _ n
  ·have o:i<zs.length:=by rw[f] at hi;omega
   have h:=a i o
   have m:(⟨b,off,none⟩:Addr).add i=⟨b,off+i,none⟩:=by unfold Addr.add;split <;> simp_all
   rw[m] at h
   rw[h,List.getElem_take,List.getD_eq_getElem?_getD,List.getElem?_eq_getElem o]
   rfl
end
end Go.Proofs.YtkofnpkopbnocaaGreatDoor
