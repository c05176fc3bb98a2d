import Derived.Test.YtkofnpkopbnocaaGreatDoorFP
import Derived.Test.YtkofnpkopbnocaaGreatDoorBasP
import Derived.Test.YtkofnpkopbnocaaGreatDoorMaSk
import Derived.Test.YtkofnpkopbnocaaGreatDoorChPk
import Derived.Deep.Slices
import Derived.Test.YtkofnpkopbnocaaGreatDoorStBk
set_option linter.unusedSimpArgs false
set_option linter.unusedVariables false
set_option maxRecDepth 100000
namespace Go.Proofs.YtkofnpkopbnocaaGreatDoor
open Go.ChangeShapes Go.WideShapes Go.ChangeAt Go.RowKit Go.Joins Go.Deep
open Mch (MS)
section
variable {H:Type} {enc:TypeId × Value→H} {W:World} {b0:Nat} {r:Reach}
theorem XiJ{P:Program}{t:TypeId}{g0:Field}{v:Value}{y:DataW H × List MemPlace}{w:World}{base n:Nat}{spare:Nat→Bool}{held:Bool}(hs:P.underlying t=some (.struct #[g0]))(ho:(g0.offset,P.cellsOf g0.type)=(0,1))(h:DataW.trod enc P w base spare held n t [v]=some y):
 ∃n2 z,DataW.trod enc P w base spare held n2 g0.type [v]=some z:=by
 simp only[Prod.mk.injEq] at ho;obtain⟨a0,a1⟩:=ho;obtain⟨xs,n2,_,_,_,a,hg⟩:=DataW.trod_struct hs h
 match xs,a with
 | [z],_=>exact⟨n2,z,by simpa [a0,a1] using hg 0 g0 rfl⟩
theorem Xd3{n:Nat}{v:Value}{y:DataW H × List MemPlace}(hf:DataW.trod enc Tryz.prog W 0 (fun _=>true) true n 24 [v]=some y): ∃l:List Int,RI W v l:=by
 rcases open_ints Tryz.underlying24 Tryz.underlying3 (by kernel_rfl) hf with⟨d,_⟩ | ⟨x,l,c,zs,d,_,hl,hm,hz,_,a,o⟩
 ·simp at d;subst d;exact⟨[], .inl ⟨rfl,rfl⟩⟩
 ·simp at d;subst d;have p:zs.length=c:=by simpa using hz
  have e:(zs.take l).length=l:=by rw[List.length_take];omega
  refine⟨zs.take l, .inr ⟨x,c,by rw[e],by omega,fun h0=>?_⟩⟩;rw[e] at h0;have j:=a 0 (by omega);obtain⟨b,off,m⟩:=x;have f:m=none:=by simpa [Addr.add] using World.cell?_spot j
  subst f;refine⟨b,off,rfl,?_,fun i hi=>?_⟩
  ·exact World.block_lt_of_cell? _ _ j
  ·have k:i<zs.length:=by rw[e] at hi;omega
   have h:=a i k;have g:(⟨b,off,none⟩:Addr).add i=⟨b,off+i,none⟩:=by unfold Addr.add;split <;> simp_all
   rw[g] at h;rw[h,List.getElem_take,List.getD_eq_getElem?_getD,List.getElem?_eq_getElem k];rfl
theorem XoG{P:Program}{t:TypeId}{f0 f1 g0 g1 g2 g3:Field}{v0 v1 v2 v3 v4:Value}{y:DataW H × List MemPlace}{w:World}{base n:Nat}{spare:Nat→Bool}{held:Bool}(hs:P.underlying t=some (.struct #[f0,f1]))
 (ho:(f0.offset,P.cellsOf f0.type,f1.offset,P.cellsOf f1.type)=(0,1,1,4))
 (hs1:P.underlying f1.type=some (.struct #[g0,g1,g2,g3])) (hone:oneCellFields P #[g0,g1,g2,g3]=true)
 (h:DataW.trod enc P w base spare held n t [v0,v1,v2,v3,v4]=some y):
 ∃ (y0 y1 y2 y3 y4:DataW H × List MemPlace) (n1 n2:Nat),DataW.trod enc P w base spare held n1 f0.type [v0]=some y0∧DataW.trod enc P w base spare held n2 g0.type [v1]=some y1∧DataW.trod enc P w base spare held n2 g1.type [v2]=some y2∧DataW.trod enc P w base spare held n2 g2.type [v3]=some y3∧DataW.trod enc P w base spare held n2 g3.type [v4]=some y4:=by
 simp only[Prod.mk.injEq] at ho;obtain⟨a0,a1,a2,a3⟩:=ho;obtain⟨xs,n1,_,hx,_,c,hg⟩:=DataW.trod_struct hs h
 match xs,c with
 |
  [y0,z],_=>
  have h0:DataW.trod enc P w base spare held n1 f0.type [v0]=some y0:=by simpa [a0,a1] using hg 0 f0 rfl
  have h1:DataW.trod enc P w base spare held n1 f1.type [v1,v2,v3,v4]=some z:=by simpa [a2,a3] using hg 1 f1 rfl
  obtain⟨ys,n2,_,_,_,b,a⟩:=DataW.trod_struct hs1 h1;obtain⟨o0,k0⟩:=hone_of hone 0 g0 rfl;obtain⟨o1,k1⟩:=hone_of hone 1 g1 rfl;obtain⟨o2,k2⟩:=hone_of hone 2 g2 rfl;obtain⟨o3,k3⟩:=hone_of hone 3 g3 rfl
  match ys,b with
  | [y1,y2,y3,y4],_=>exact⟨y0,y1,y2,y3,y4,n1,n2,h0,by simpa [o0,k0] using a 0 g0 rfl,by simpa [o1,k1] using a 1 g1 rfl,by simpa [o2,k2] using a 2 g2 rfl,by simpa [o3,k3] using a 3 g3 rfl⟩
end
open Stg (Ch)
section
variable {H:Type} {enc:TypeId × Value→H} {W:World} {b0:Nat} {r:Reach}
theorem Xbp{u:Value}{n:Nat}{y:DataW H × List MemPlace}(hf:DataW.trod enc Tryz.prog W 0 (fun _=>true) true n 24 [u]=some y): ∃l:List Int,RI W u l∧WfI l∧l.length≤maxLen:=by
 rcases open_ints Tryz.underlying24 Tryz.underlying3 (by kernel_rfl) hf with⟨f,_⟩ | ⟨x,a,c,zs,f,_,hl,hm,hz,_,d,p⟩
 ·obtain rfl:u= .slice none 0 0:=by simpa using f
  exact⟨[], .inl ⟨rfl,rfl⟩,fun x hx=>(by cases hx),Nat.zero_le _⟩
 ·obtain rfl:u= .slice (some x) a c:=by simpa using f
  have q:zs.length=c:=by simpa using hz
  have e:(zs.take a).length=a:=by rw[List.length_take];omega
  refine⟨zs.take a, .inr ⟨x,c,by rw[e],by omega,fun h0=>?_⟩,fun y hy=>bounds_i64 (p y (List.mem_of_mem_take hy)),by omega⟩;rw[e] at h0;have k:=d 0 (by omega);obtain⟨b,off,o⟩:=x;have g:o=none:=by simpa [Addr.add] using World.cell?_spot k
  subst g;refine⟨b,off,rfl,World.block_lt_of_cell? _ _ k,fun i hi=>?_⟩;have m:i<zs.length:=by rw[e] at hi;omega
  have h:=d i m;have j:(⟨b,off,none⟩:Addr).add i=⟨b,off+i,none⟩:=by unfold Addr.add;split <;> simp_all
  rw[j] at h;rw[h,List.getElem_take,List.getD_eq_getElem?_getD,List.getElem?_eq_getElem m];rfl
theorem Xsn{α:Type}(n:Nat)(p:Nat→α→Prop)(h: ∀i,i<n→∃x,p i x): ∃l:List α,l.length=n∧∀i (hi:i<l.length),p i l[i]:=by
 induction n with
 | zero=>exact⟨[],rfl,fun i hi=>by cases hi⟩
 |
  succ n ih=>
  obtain⟨l,hl,hp⟩:=ih fun i hi=>h i (by omega);obtain⟨x,hx⟩:=h n (Nat.lt_succ_self n);refine⟨l++ [x],by simp [hl],fun i hi=>?_⟩;by_cases hin:i<l.length
  ·rw[List.getElem_append_left hin];exact hp i hin
  ·have a:i<l.length+1:=by simpa using hi
   obtain rfl:i=l.length:=by omega
   rw[List.getElem_append_right (Nat.le_refl _)];simp only[Nat.sub_self,List.getElem_cons_zero];rw[hl];exact hx
theorem XiI{u:Value}{n:Nat}{y:DataW H × List MemPlace}(hf:DataW.trod enc Tryz.prog W 0 (fun _=>true) true n 35 [u]=some y): ∃ls:List (List Int),RRo (fun _=>False) W u ls∧(∀l∈ls,WfI l)∧ls.length≤maxLen:=by
 rcases open_slice1 Tryz.underlying35 (by kernel_rfl) hf with⟨c,_⟩ | ⟨a,len,cap,m,k,V,D,Pl,c,_,hl,hm,o,_,hx⟩
 ·obtain rfl:u= .slice none 0 0:=by simpa using c
  exact⟨[], .inl ⟨rfl,rfl⟩,fun l hl=>(by cases hl),Nat.zero_le _⟩
 ·obtain rfl:u= .slice (some a) len cap:=by simpa using c
  have p:m=cap:=by simpa using o
  obtain⟨ls,j,hp⟩:=Xsn len (fun i l=>W.cell? (a.add i)=some (V i)∧RI W (V i) l∧WfI l) fun i hi=>by
   obtain⟨h1,h2⟩:=hx i (by omega);obtain⟨l,h3,h4,_⟩:=Xbp h2;exact⟨l,h1,h3,h4⟩
  subst j;refine⟨ls, .inr ⟨a,cap,rfl,hl,fun h0=>?_⟩,fun l hl=>?_,by omega⟩
  ·have f:=(hp 0 h0).1;obtain⟨b,off,g⟩:=a;have d:g=none:=by simpa [Addr.add] using World.cell?_spot f
   subst d;refine⟨b,off,rfl,World.block_lt_of_cell? _ _ f,fun h=>h,fun i hi=>⟨V i,?_,Xcz (hp i hi).2.1⟩⟩;have h:=(hp i hi).1;have e:(⟨b,off,none⟩:Addr).add i=⟨b,off+i,none⟩:=by unfold Addr.add;split <;> simp_all
   rw[e] at h;exact h
  ·obtain⟨i,hi,rfl⟩:=List.getElem_of_mem hl;exact(hp i hi).2.2
theorem X9C{v:Value}{d:DataW H}{p:List MemPlace}(hv:Value.okWide Tryz.prog W r b0 37 v)(h:DataW.Trod enc Tryz.prog W 0 (fun _=>true) true 37 v d p):
 ∃c:Ch,RCh (fun _=>False) W v c∧(∀l∈c.L,WfI l)∧c.L.length≤maxLen:=by
 obtain⟨c0,c1,y0,y1,m,rfl,rfl,rfl,a,b⟩:=open_agg2 Tryz.underlying37 (by kernel_rfl) (by kernel_rfl) hv h;obtain⟨ls,h1,h2,h3⟩:=XiI a;obtain⟨q,e1,_⟩:=DataW.trod_bool Tryz.underlying4 b;simp only[List.cons.injEq,and_true] at e1;subst e1;exact⟨⟨ls,q⟩,⟨_,rfl,h1⟩,h2,h3⟩
end
open Stg (Ch St)
section
variable {H:Type} {enc:TypeId × Value→H} {W:World} {b0:Nat} {r:Reach}
theorem XG2{P:Program}{t:TypeId}{f0 f1 f2 f3 f4:Field}{c0 c1 c2 c3 c4 c5 c6 c7 c8:Value}{y:DataW H × List MemPlace}{w:World}{base n:Nat}{spare:Nat→Bool}{held:Bool}(hs:P.underlying t=some (.struct #[f0,f1,f2,f3,f4]))
 (ho:(f0.offset,P.cellsOf f0.type,f1.offset,P.cellsOf f1.type,f2.offset,P.cellsOf f2.type,f3.offset,P.cellsOf f3.type,f4.offset,P.cellsOf f4.type)=(0,1,1,1,2,1,3,5,8,1))
 (h:DataW.trod enc P w base spare held n t [c0,c1,c2,c3,c4,c5,c6,c7,c8]=some y):
 ∃ (y0 y1 y2 y3 y4:DataW H × List MemPlace) (n:Nat),DataW.trod enc P w base spare held n f0.type [c0]=some y0∧DataW.trod enc P w base spare held n f1.type [c1]=some y1∧DataW.trod enc P w base spare held n f2.type [c2]=some y2∧DataW.trod enc P w base spare held n f3.type [c3,c4,c5,c6,c7]=some y3∧DataW.trod enc P w base spare held n f4.type [c8]=some y4:=by
 simp only[Prod.mk.injEq] at ho;obtain⟨a0,a1,a2,a3,a4,a5,a6,a7,a8,a9⟩:=ho;obtain⟨xs,n,_,hx,_,a,hg⟩:=DataW.trod_struct hs h
 match xs,a with
 |
  [y0,y1,y2,y3,y4],_=>
  exact⟨y0,y1,y2,y3,y4,n,by simpa [a0,a1] using hg 0 f0 rfl,by simpa [a2,a3] using hg 1 f1 rfl,by simpa [a4,a5] using hg 2 f2 rfl,by simpa [a6,a7] using hg 3 f3 rfl,by simpa [a8,a9] using hg 4 f4 rfl⟩
theorem XG1{P:Program}{t:TypeId}{f0 f1 f2 f3:Field}{v:Value}{d:DataW H}{p:List MemPlace}{w:World}{base:Nat}{spare:Nat→Bool}{held:Bool}(hs:P.underlying t=some (.struct #[f0,f1,f2,f3]))(hC:P.cellsOf t=12)
 (ho:(f0.offset,P.cellsOf f0.type,f1.offset,P.cellsOf f1.type,f2.offset,P.cellsOf f2.type,f3.offset,P.cellsOf f3.type)=(0,9,9,1,10,1,11,1))
 (hv:Value.okWide P w r b0 t v) (h:DataW.Trod enc P w base spare held t v d p):
 ∃ (c0 c1 c2 c3 c4 c5 c6 c7 c8 c9 a b:Value) (y0 y1 y2 y3:DataW H × List MemPlace) (n:Nat),v= .agg #[c0,c1,c2,c3,c4,c5,c6,c7,c8,c9,a,b]∧DataW.trod enc P w base spare held n f0.type [c0,c1,c2,c3,c4,c5,c6,c7,c8]=some y0∧DataW.trod enc P w base spare held n f1.type [c9]=some y1∧DataW.trod enc P w base spare held n f2.type [a]=some y2∧DataW.trod enc P w base spare held n f3.type [b]=some y3:=by
 simp only[Prod.mk.injEq] at ho;obtain⟨a0,a1,a2,a3,a4,a5,a6,a7⟩:=ho;obtain⟨cs,rfl,e⟩:=okWide_struct hs hv;obtain⟨l⟩:=cs
 match l,e.trans hC with
 |
  [c0,c1,c2,c3,c4,c5,c6,c7,c8,c9,a,b],_=>
  obtain⟨fuel,hf⟩:=h;obtain⟨xs,n,_,hx,_,c,hg⟩:=DataW.trod_struct hs hf
  match xs,c with
  |
   [y0,y1,y2,y3],_=>
   exact⟨c0,c1,c2,c3,c4,c5,c6,c7,c8,c9,a,b,y0,y1,y2,y3,n,rfl,by simpa [Value.cells,a0,a1] using hg 0 f0 rfl,by simpa [Value.cells,a2,a3] using hg 1 f1 rfl,by simpa [Value.cells,a4,a5] using hg 2 f2 rfl,by simpa [Value.cells,a6,a7] using hg 3 f3 rfl⟩
theorem XFW{v:Value}{d:DataW H}{p:List MemPlace}(hv:Value.okWide Tryz.prog W r b0 34 v)(h:DataW.Trod enc Tryz.prog W 0 (fun _=>true) true 34 v d p): ∃s:St,RS (fun _=>False) W v s∧I64 s.m.kind:=by
 obtain⟨c0,c1,c2,c3,c4,c5,c6,c7,c8,c9,j,l,u0,u1,u2,u3,n,rfl,g0,g1,g2,g3⟩:=XG1 Tryz.underlying34 (by kernel_rfl) (by kernel_rfl) hv h;obtain⟨y0,y1,y2,y3,y4,n2,h0,h1,h2,h3,h4⟩:=XG2 Tryz.underlying32 (by kernel_rfl) g0;obtain⟨k,e0,_,hk⟩:=DataW.trod_int Tryz.underlying3 h0;obtain⟨_,_,h1⟩:=XiJ Tryz.underlying23 (by kernel_rfl) h1;obtain⟨s,e1,_,_⟩:=DataW.trod_string Tryz.underlying9 h1;obtain⟨_,_,h2⟩:=XiJ Tryz.underlying26 (by kernel_rfl) h2;obtain⟨ln,rn⟩:=Xd3 h2;obtain⟨_,_,_,_,_,_,_,c,e,f,g,i⟩:=XoG Tryz.underlying30 (by kernel_rfl) Tryz.underlying28 (by kernel_rfl) h3;obtain⟨lg,rg⟩:=Xd3 c
 obtain⟨on,e4,_⟩:=DataW.trod_bool Tryz.underlying4 e;obtain⟨kd,e5,_,_⟩:=DataW.trod_int Tryz.underlying3 f;obtain⟨q,e6,_⟩:=DataW.trod_bool Tryz.underlying4 g;obtain⟨o,e7,_⟩:=DataW.trod_bool Tryz.underlying4 i;obtain⟨lc,rc⟩:=Xd3 h4;obtain⟨lp,rp⟩:=Xd3 g1;obtain⟨en,a,_⟩:=DataW.trod_bool Tryz.underlying4 g2;obtain⟨sh,b,_⟩:=DataW.trod_bool Tryz.underlying4 g3;simp only[List.cons.injEq,and_true] at e0 e1 e4 e5 e6 e7 a b;subst e0 e1 e4 e5 e6 e7 a b;refine⟨⟨⟨k,s.data.toList,ln,lg,⟨on,kd,q,o⟩,lc⟩,lp,en,sh⟩,⟨_,_,_,_,?_,Xcz rn,Xcz rg,Xcz rc,Xcz rp⟩,bounds_i64 hk⟩;unfold stgC strV;cases s;simp
end
end Go.Proofs.YtkofnpkopbnocaaGreatDoor
