import Derived.Test.YtkofnpkopbnocaaGreatDoorMthP
import Derived.Test.YtkofnpkopbnocaaGreatDoorPrP
import Derived.Deep.LoopGhost
import Derived.Deep.DeepCutAuto
import Derived.Test.YtkofnpkopbnocaaGreatDoorBasP
import Derived.IntWalk
namespace Go.Proofs.YtkofnpkopbnocaaGreatDoor
set_option linter.unusedSimpArgs false
set_option linter.unusedVariables false
open Go.RowKit Go.Lib
open Prp (mrkB cccI)
namespace Can
theorem XcL{r:Int}(A B:List Int)(h: ∀x∈A,mrkB x=true∧cccI r<cccI x):insR r (A++B)=A++insR r B:=by
 induction A with
 | nil=>rfl
 |
  cons x t ih=>
  rw[List.cons_append,insR,if_pos (h x (List.mem_cons_self ..)),ih fun y hy=>h y (List.mem_cons_of_mem _ hy)]
  rfl
theorem Xfa(l:List Int)(r:Int)(k:Nat)(hk:k≤l.length)(h1: ∀j (hj:j<l.length),k≤j→mrkB l[j]=true∧cccI r<cccI l[j])
 (h2:k=0∨∃h:k - 1<l.length,¬(mrkB l[k - 1]=true∧cccI r<cccI l[k - 1])):(insR r l.reverse).reverse=l.take k++r::l.drop k:=by
 have e:l.reverse=(l.drop k).reverse++(l.take k).reverse:=by rw[←List.reverse_append,List.take_append_drop]
 rw[e,XcL]
 ·have hb:insR r (l.take k).reverse=r::(l.take k).reverse:=by
   rcases h2 with rfl | ⟨h,hn⟩
   ·simp [insR]
   ·rcases Nat.eq_zero_or_pos k with rfl | a
    ·simp [insR]
    have ht:l.take k=l.take (k - 1)++ [l[k - 1]]:=by
     conv=>lhs;rw[show k=k - 1+1 by omega]
     rw[List.take_succ_eq_append_getElem h]
    rw[ht,List.reverse_append,List.reverse_singleton,List.singleton_append,insR,if_neg hn]
  rw[hb]
  simp
 ·intro x hx
  rw[List.mem_reverse] at hx
  obtain⟨j,hj,rfl⟩:=List.mem_iff_getElem.1 hx
  rw[List.length_drop] at hj
  rw[List.getElem_drop]
  exact h1 (k+j) (by omega) (by omega)
end Can
end Go.Proofs.YtkofnpkopbnocaaGreatDoor
