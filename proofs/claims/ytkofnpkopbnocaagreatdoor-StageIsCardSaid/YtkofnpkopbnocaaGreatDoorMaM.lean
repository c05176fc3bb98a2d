import Derived.Test.YtkofnpkopbnocaaGreatDoorMatP
set_option linter.unusedSimpArgs false
set_option linter.unusedVariables false
namespace Go.Proofs.YtkofnpkopbnocaaGreatDoor.Mch
open Clu (CS zero)
open Nfk Fol
structure MS where
 kind:Int
 d:List UInt8
 n:List Int
 g:List Int
 s:CS
 c:List Int
deriving DecidableEq
def bare(k:Int):MS:=⟨k,[],[],[],zero,[]⟩
def newM(k:Int):MS:=bare (if 0≤k∧k≤4 then k else 0)
def saneM(m:MS):Bool:=
 decide (0≤m.kind∧m.kind≤4) && Dec.saneL m.d && Nor.saneB m.n && Sgm.saneB m.g m.s && decide (m.c.length≤32) && m.c.all (fun x=>decide (x≠ -1)) &&
 (decide (m.kind=0) || m.d.isEmpty) && (decide (m.kind=1) || decide (m.kind=2) || m.n.isEmpty) && (decide (m.kind=3) || (m.g.isEmpty && !m.s.on)) && (decide (m.kind=4) || m.c.isEmpty)
def asM(m:MS):MS:=if saneM m=true then m else newM m.kind
def X0M(b:List UInt8):List Int:=b.map fun c=>(c.toNat:Int)
def cutOf(c:List Int):List Int:=if c= [] then [] else c++ [-1]
def X2G(x:Int):UInt8:=UInt8.ofNat (x % 256).toNat
def feedK(m:MS)(x:Int):MS × List Int:=
 if m.kind=0 then ({ bare 0 with d:=(Dec.feedL m.d (X2G x)).1 },(Dec.feedL m.d (X2G x)).2)
 else if m.kind=1 then ({ bare 1 with n:=(Nor.feedI m.n x).1 },(Nor.feedI m.n x).2)
 else if m.kind=2 then ({ bare 2 with n:=(Fol.feedI m.n x).1 },(Fol.feedI m.n x).2)
 else if m.kind=3 then ({ bare 3 with g:=(Sgm.feedI m.g m.s x).1.1,s:=(Sgm.feedI m.g m.s x).1.2 },cutOf (Sgm.feedI m.g m.s x).2)
 else if x= -1 then (bare 4,X0M (Frm.putF m.c))
 else if m.c.length=32 then (m,[])
 else ({ bare 4 with c:=m.c++ [x] },[])
def feedM(m:MS)(x:Int):MS × List Int:=feedK (asM m) x
def endK(m:MS):List Int:=
 if m.kind=0 then Dec.endLL m.d else if m.kind=1∨m.kind=2 then Nor.endI m.n else if m.kind=3 then cutOf (Sgm.endI m.g m.s) else []
def endM(m:MS):MS × List Int:=(newM (asM m).kind,endK (asM m))
def costM(m:MS):Nat:=if saneM m=true then m.d.length+m.n.length+m.g.length+m.c.length else 0
def X0N:MS→List Int→MS × List Int
 | m,[]=>(m,[])
 | m,x::t=>((X0N (feedM m x).1 t).1,(feedM m x).2++(X0N (feedM m x).1 t).2)
theorem X4f(m:MS)(a b:List Int):X0N m (a++b)=((X0N (X0N m a).1 b).1,(X0N m a).2++(X0N (X0N m a).1 b).2):=by
 induction a generalizing m with
 | nil=>simp [X0N]
 | cons x t ih=>simp only[List.cons_append,X0N];rw[ih];simp
theorem XdK{k:Int}(h:0≤k∧k≤4):saneM (bare k)=true:=by
 have h1:Nor.saneB []=true:=by decide
 have h2:Sgm.saneB [] zero=true:=by decide
 have h3:Dec.saneL []=true:=rfl;unfold saneM bare;simp [h,h1,h2,h3];exact .inr rfl
theorem Xxn(k:Int):0≤(newM k).kind∧(newM k).kind≤4:=by
 unfold newM bare;simp only
 split <;> omega
theorem X6H(k:Int):saneM (newM k)=true:=by
 have:=Xxn k;unfold newM at this ⊢;exact XdK this
theorem X8P(m:MS):saneM (asM m)=true:=by
 unfold asM
 split
 ·assumption
 ·exact X6H _
theorem X2E{m:MS}(h:saneM m=true):asM m=m:=by unfold asM;rw[if_pos h]
structure Sane (m:MS):Prop where
 kind:0≤m.kind∧m.kind≤4
 d:Dec.saneL m.d=true
 n:Nor.saneB m.n=true
 g:Sgm.saneB m.g m.s=true
 c:m.c.length≤32
 cut: ∀x∈m.c,x≠ -1
 d0:m.kind=0∨m.d= []
 n0:m.kind=1∨m.kind=2∨m.n= []
 g0:m.kind=3∨(m.g= []∧m.s.on=false)
 c0:m.kind=4∨m.c= []
theorem X1b(m:MS):saneM m=true↔Sane m:=by
 unfold saneM;simp only[Bool.and_eq_true,Bool.or_eq_true,decide_eq_true_eq,List.all_eq_true,List.isEmpty_iff,Bool.not_eq_true'];constructor
 ·rintro ⟨⟨⟨⟨⟨⟨⟨⟨⟨a,b⟩,c⟩,d⟩,e⟩,f⟩,g⟩,h⟩,i⟩,j⟩;exact⟨a,b,c,d,e,f,g,by rcases h with(h | h) | h;exact .inl h;exact .inr (.inl h);exact .inr (.inr h),i,j⟩
 ·rintro ⟨a,b,c,d,e,f,g,h,i,j⟩;exact⟨⟨⟨⟨⟨⟨⟨⟨⟨a,b⟩,c⟩,d⟩,e⟩,f⟩,g⟩,by rcases h with h | h | h;exact .inl (.inl h);exact .inl (.inr h);exact .inr h⟩,i⟩,j⟩
theorem X84{m:MS}(h:Sane m):m.kind=0∨m.kind=1∨m.kind=2∨m.kind=3∨m.kind=4:=by have:=h.kind;omega
theorem nor0:Nor.saneB []=true:=by decide
theorem seg0:Sgm.saneB [] zero=true:=by decide
theorem XfB{m:MS}(h:Sane m)(x:Int):Sane (feedK m x).1∧(feedK m x).1.kind=m.kind:=by
 unfold feedK;rcases X84 h with hk | hk | hk | hk | hk
 ·rw[if_pos hk];refine⟨⟨by simp [bare],?_,nor0,seg0,by simp [bare],(by intro y hy;cases hy), .inl rfl, .inr (.inr rfl), .inr ⟨rfl,rfl⟩, .inr rfl⟩,hk.symm⟩;exact Dec.X82 m.d (X2G x)
 ·rw[if_neg (by omega),if_pos hk];refine⟨⟨by simp [bare],rfl,Nor.X7A (Nor.Xe6 m.n x),seg0,by simp [bare],(by intro y hy;cases hy), .inr rfl, .inl rfl, .inr ⟨rfl,rfl⟩, .inr rfl⟩,hk.symm⟩
 ·rw[if_neg (by omega),if_neg (by omega),if_pos hk];refine⟨⟨by simp [bare],rfl,Nor.X7A (Fol.X7m m.n x),seg0,by simp [bare],(by intro y hy;cases hy), .inr rfl, .inr (.inl rfl), .inr ⟨rfl,rfl⟩, .inr rfl⟩,hk.symm⟩
 ·rw[if_neg (by omega),if_neg (by omega),if_neg (by omega),if_pos hk];refine⟨⟨by simp [bare],rfl,nor0,Sgm.X3G m.g m.s x,by simp [bare],(by intro y hy;cases hy), .inr rfl, .inr (.inr rfl), .inl rfl, .inr rfl⟩,hk.symm⟩
 ·rw[if_neg (by omega),if_neg (by omega),if_neg (by omega),if_neg (by omega)]
  split
  ·exact⟨(X1b _).1 (XdK (by omega)),hk.symm⟩
  ·rename_i hx
   split
   ·exact⟨h,rfl⟩
   ·rename_i hl;refine⟨⟨by simp [bare],rfl,nor0,seg0,?_,?_, .inr rfl, .inr (.inr rfl), .inr ⟨rfl,rfl⟩, .inl rfl⟩,hk.symm⟩
    ·have:=h.c;simp;omega
    ·intro y hy;rcases List.mem_append.1 hy with hy | hy
     ·exact h.cut y hy
     ·obtain rfl:y=x:=by simpa using hy
      exact hx
theorem X3G(m:MS)(x:Int):saneM (feedM m x).1=true∧(feedM m x).1.kind=(asM m).kind:=by
 have h:=(X1b _).1 (X8P m);obtain⟨a,b⟩:=XfB h x;exact⟨(X1b _).2 a,b⟩
theorem Xjl{m:MS}(h:Sane m):m.d.length+m.n.length+m.g.length+m.c.length≤32:=by
 have h1:=Dec.Xtj h.d;have h2:=Nor.X6K (Nor.Xa3 h.n);have h3:m.g.length≤32:=by
  have:=h.g;unfold Sgm.saneB at this;simp only[Bool.and_eq_true,decide_eq_true_eq] at this;exact this.1.1
 have h4:=h.c;rcases X84 h with hk | hk | hk | hk | hk
 ·have a:=(h.n0.resolve_left (by omega)).resolve_left (by omega);have b:=(h.g0.resolve_left (by omega)).1;have c:=h.c0.resolve_left (by omega);rw[a,b,c];simp;omega
 ·have a:=h.d0.resolve_left (by omega);have b:=(h.g0.resolve_left (by omega)).1;have c:=h.c0.resolve_left (by omega);rw[a,b,c];simp;omega
 ·have a:=h.d0.resolve_left (by omega);have b:=(h.g0.resolve_left (by omega)).1;have c:=h.c0.resolve_left (by omega);rw[a,b,c];simp;omega
 ·have a:=(h.n0.resolve_left (by omega)).resolve_left (by omega);have b:=h.d0.resolve_left (by omega);have c:=h.c0.resolve_left (by omega);rw[a,b,c];simp;omega
 ·have a:=(h.n0.resolve_left (by omega)).resolve_left (by omega);have b:=(h.g0.resolve_left (by omega)).1;have c:=h.d0.resolve_left (by omega);rw[a,b,c];simp;omega
theorem Xty(m:MS):costM m≤32:=by
 unfold costM
 split
 ·rename_i h;exact Xjl ((X1b _).1 h)
 ·omega
theorem Xhe(k:Int):costM (newM k)=0:=by
 unfold costM;rw[if_pos (X6H k)];rfl
theorem XlH(c:List Int):(cutOf c).length≤c.length+1:=by unfold cutOf;split <;> simp
theorem X9Y(c:List Int):(Frm.putF c).length≤4 *c.length+4:=by
 unfold Frm.putF
 split
 ·simp
 ·rename_i h;have hb:(Dec.textL c).length≤268435455:=by
   have: ¬Frm.big<(Dec.textL c).length:=fun h1=>h (.inr h1);unfold Frm.big at this;omega
  have h1:=Dec.Xjf c;have h2:=Var.X8m _ hb;unfold Frm.X1g;simp;omega
theorem Xxo(c:List Int)(s:CS)(x:Int)(h:Sgm.saneB c s=true):(Sgm.feedI c s x).2.length≤32:=by
 have hc:c.length≤32:=by
  unfold Sgm.saneB at h;simp only[Bool.and_eq_true,decide_eq_true_eq] at h;exact h.1.1
 unfold Sgm.feedI;rw[if_pos h];unfold Sgm.stepI
 split
 ·exact hc
 ·simp
theorem Xpx{m:MS}(h:Sane m)(x:Int):(feedK m x).2.length≤140:=by
 unfold feedK;rcases X84 h with hk | hk | hk | hk | hk
 ·rw[if_pos hk];have h1:=Dec.XdA m.d (X2G x);have h2:Dec.cnt m.d≤1:=by unfold Dec.cnt;split <;> omega
  simp only
  omega
 ·rw[if_neg (by omega),if_pos hk];have:=Nor.X1G m.n x;simp only
  omega
 ·rw[if_neg (by omega),if_neg (by omega),if_pos hk];have:=Fol.X1G m.n x;simp only
  omega
 ·rw[if_neg (by omega),if_neg (by omega),if_neg (by omega),if_pos hk];have h1:=Xxo m.g m.s x h.g;have h2:=XlH (Sgm.feedI m.g m.s x).2;simp only
  omega
 ·rw[if_neg (by omega),if_neg (by omega),if_neg (by omega),if_neg (by omega)]
  split
  ·have h1:=X9Y m.c;have h2:=h.c;simp only[X0M,List.length_map];omega
  ·split <;> simp
theorem X1G(m:MS)(x:Int):(feedM m x).2.length≤140:=Xpx ((X1b _).1 (X8P m)) x
theorem X5D(m:MS):(endM m).2.length≤33∧saneM (endM m).1=true∧(endM m).1.kind=(asM m).kind∧costM (endM m).1=0:=by
 have h:=(X1b _).1 (X8P m);refine⟨?_,X6H _,?_,Xhe _⟩
 ·show (endK (asM m)).length≤33
  unfold endK
  split
  ·unfold Dec.endLL;split <;> simp
  ·split
   ·unfold Nor.endI
    split
    ·have h1:=Can.X1k (asM m).n;have h2:=Nor.X6K (Nor.Xa3 h.n);omega
    ·simp
   ·split
    ·unfold Sgm.endI;rw[if_pos h.g];have h1:=XlH (asM m).g;have h3:(asM m).g.length≤32:=by
      have:=h.g;unfold Sgm.saneB at this;simp only[Bool.and_eq_true,decide_eq_true_eq] at this;exact this.1.1
     omega
    ·simp
 ·have hk:=h.kind
  show (newM (asM m).kind).kind=(asM m).kind
  unfold newM;rw[if_pos hk];rfl
end Go.Proofs.YtkofnpkopbnocaaGreatDoor.Mch
