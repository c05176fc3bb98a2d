import Derived.Test.YtkofnpkopbnocaaGreatDoorBasP
import Derived.Test.YtkofnpkopbnocaaGreatDoorMaM
set_option linter.unusedSimpArgs false
set_option linter.unusedVariables false
namespace Go.Proofs.YtkofnpkopbnocaaGreatDoor.Stg
structure Ch where
 L:List (List Int)
 closed:Bool
deriving DecidableEq
def saneC(c:Ch):Bool:=decide (c.L.length≤2) && c.L.all fun b=>decide (1≤b.length) && decide (b.length≤8)
def asC(c:Ch):Ch:=if saneC c=true then c else ⟨[],false⟩
def okB(b:List Int):Bool:=decide (1≤b.length) && decide (b.length≤8)
def putC(c:Ch)(b:List Int):Ch × Bool:=
 if okB b=true∧(asC c).closed=false∧(asC c).L.length<2 then (⟨(asC c).L++ [b],false⟩,true) else (asC c,false)
def takeC(c:Ch):Ch × List Int × Bool:=
 match (asC c).L with
 | []=>(asC c,[],false)
 | b::t=>(⟨t,(asC c).closed⟩,b,true)
def X1y(c:Ch):Ch:=⟨(asC c).L,true⟩
def X6T(c:Ch):Bool:=(asC c).closed && (asC c).L.isEmpty
def X1Z(c:Ch):Nat:=(asC c).L.flatten.length
theorem X11(c:Ch):saneC c=true↔c.L.length≤2∧∀b∈c.L,1≤b.length∧b.length≤8:=by
 unfold saneC;simp only[Bool.and_eq_true,decide_eq_true_eq,List.all_eq_true]
theorem X2I(c:Ch):saneC (asC c)=true:=by unfold asC;split;assumption;rfl
theorem X0y{c:Ch}(h:saneC c=true):asC c=c:=by unfold asC;rw[if_pos h]
theorem X4S(b:List Int):okB b=true↔1≤b.length∧b.length≤8:=by unfold okB;simp
theorem X6i(c:Ch)(b:List Int):saneC (putC c b).1=true:=by
 unfold putC
 split
 ·rename_i h;have h1:=(X11 _).1 (X2I c);have h2:=(X4S b).1 h.1;refine(X11 _).2 ⟨by simp;omega,fun x hx=>?_⟩;rcases List.mem_append.1 hx with hx | hx
  ·exact h1.2 x hx
  ·obtain rfl:x=b:=by simpa using hx
   exact h2
 ·exact X2I c
theorem X3T(c:Ch):saneC (X1y c)=true:=by
 have h1:=(X11 _).1 (X2I c);exact(X11 _).2 h1
end Go.Proofs.YtkofnpkopbnocaaGreatDoor.Stg
namespace Go.Proofs.YtkofnpkopbnocaaGreatDoor.Stg
open Mch
structure St where
 m:MS
 pend:List Int
 ended:Bool
 shut:Bool
deriving DecidableEq
def newS(k:Int):St:=⟨newM k,[],false,false⟩
def saneS(s:St):Bool:=
 saneM s.m && decide (s.pend.length≤256) && (!s.ended || decide (s.m.n= []∧s.m.d= []∧s.m.g= []∧s.m.s=Clu.zero∧s.m.c= [])) && (!s.shut || (s.ended && s.pend.isEmpty))
def asS(s:St):St:=if saneS s=true then s else newS s.m.kind
def stepK(t:St)(i o:Ch):St × Ch × Ch × Bool:=
 if t.shut=true then (t,i,o,false)
 else if t.pend≠ [] then
  (if (putC o (t.pend.take 8)).2=true then (⟨t.m,t.pend.drop 8,t.ended,false⟩,i,(putC o (t.pend.take 8)).1,true) else (t,i,o,false))
 else if t.ended=true then (⟨t.m,[],true,true⟩,i,X1y o,true)
 else match i.L with
  | b::r=>(⟨(X0N t.m b).1,(X0N t.m b).2,false,false⟩,⟨r,i.closed⟩,o,true)
  | []=>if i.closed=true then (⟨(endM t.m).1,(endM t.m).2,true,false⟩,i,o,true) else (t,i,o,false)
def stepS(s:St)(i o:Ch):St × Ch × Ch × Bool:=stepK (asS s) (asC i) (asC o)
def costS(s:St):Nat:=costM (asS s).m+(asS s).pend.length
structure SaneS (s:St):Prop where
 m:saneM s.m=true
 pend:s.pend.length≤256
 ended:s.ended=true→s.m=newM s.m.kind
 shut:s.shut=true→s.ended=true∧s.pend= []
theorem XyV{m:MS}(h:saneM m=true):m=newM m.kind↔(m.n= []∧m.d= []∧m.g= []∧m.s=Clu.zero∧m.c= []):=by
 have hk:=((X1b m).1 h).kind;constructor
 ·intro e;rw[e];unfold newM bare;exact⟨rfl,rfl,rfl,rfl,rfl⟩
 ·rintro ⟨a,b,c,d,e⟩;obtain⟨k,d',n',g',s',c'⟩:=m;simp only at a b c d e hk;subst a b c d e;unfold newM bare;simp only[if_pos hk]
theorem X3I(s:St):saneS s=true↔SaneS s:=by
 unfold saneS;simp only[Bool.and_eq_true,Bool.or_eq_true,decide_eq_true_eq,Bool.not_eq_true',List.isEmpty_iff];constructor
 ·rintro ⟨⟨⟨a,b⟩,c⟩,d⟩;refine⟨a,b,fun h=>?_,fun h=>?_⟩
  ·rcases c with c | c
   ·rw[h] at c;cases c
   ·exact(XyV a).2 c
  ·rcases d with d | d
   ·rw[h] at d;cases d
   ·exact d
 ·rintro ⟨a,b,c,d⟩;refine⟨⟨⟨a,b⟩,?_⟩,?_⟩
  ·by_cases h:s.ended=true
   ·exact .inr ((XyV a).1 (c h))
   ·exact .inl (by simpa using h)
  ·by_cases h:s.shut=true
   ·exact .inr (d h)
   ·exact .inl (by simpa using h)
theorem Xal(k:Int):SaneS (newS k):=⟨X6H k,by simp [newS],(by intro h;cases h),(by intro h;cases h)⟩
theorem XnT(s:St):SaneS (asS s):=by
 unfold asS
 split
 ·rename_i h;exact(X3I s).1 h
 ·exact Xal _
theorem Xye(s:St):costS s≤288:=by
 have h:=XnT s;have h1:=Xty (asS s).m;have h2:=h.pend;unfold costS;omega
theorem Xqx(m:MS)(h:saneM m=true)(b:List Int):saneM (X0N m b).1=true∧(X0N m b).1.kind=m.kind:=by
 induction b generalizing m with
 | nil=>exact⟨h,rfl⟩
 |
  cons x t ih=>
  obtain⟨h1,h2⟩:=X3G m x;obtain⟨h3,h4⟩:=ih _ h1;refine⟨h3,?_⟩
  show (X0N (feedM m x).1 t).1.kind=m.kind
  rw[h4,h2,X2E h]
def X5p(m:MS):Nat:=
 if m.kind=0 then Dec.cnt m.d else if m.kind=1∨m.kind=2 then m.n.length else if m.kind=3 then m.g.length else 4 *m.c.length
def gain(k:Int):Nat:=if k=2 then 24 else 8
theorem w0{m:MS}(h:m.kind=0):X5p m=Dec.cnt m.d:=by unfold X5p;rw[if_pos h]
theorem w12{m:MS}(h:m.kind=1∨m.kind=2):X5p m=m.n.length:=by unfold X5p;rw[if_neg (by omega),if_pos h]
theorem w3{m:MS}(h:m.kind=3):X5p m=m.g.length:=by unfold X5p;rw[if_neg (by omega),if_neg (by omega),if_pos h]
theorem w4{m:MS}(h:m.kind=4):X5p m=4 *m.c.length:=by unfold X5p;rw[if_neg (by omega),if_neg (by omega),if_neg (by omega)]
theorem Xmp{m:MS}(h:Sane m)(x:Int):X5p (feedK m x).1+(feedK m x).2.length≤X5p m+gain m.kind:=by
 rcases X84 h with hk | hk | hk | hk | hk
 ·have e:feedK m x=({ bare 0 with d:=(Dec.feedL m.d (Mch.X2G x)).1 },(Dec.feedL m.d (Mch.X2G x)).2):=by unfold feedK;rw[if_pos hk]
  have hg:gain m.kind=8:=by unfold gain;rw[if_neg (by omega)]
  have:=Dec.XdA m.d (Mch.X2G x);rw[e,w0 hk,w0 rfl,hg];simp only[bare];omega
 ·have e:feedK m x=({ bare 1 with n:=(Nor.feedI m.n x).1 },(Nor.feedI m.n x).2):=by unfold feedK;rw[if_neg (by omega),if_pos hk]
  have hg:gain m.kind=8:=by unfold gain;rw[if_neg (by omega)]
  have h1:=Nor.Xhp (if Nor.saneB m.n=true then m.n else []) (Dcp.fullI x);rw[if_pos h.n] at h1;have h2:=(Dcp.X1U x).2;rw[e,w12 (.inl hk),w12 (.inl rfl),hg];simp only[bare];unfold Nor.feedI;rw[if_pos h.n];omega
 ·have e:feedK m x=({ bare 2 with n:=(Fol.feedI m.n x).1 },(Fol.feedI m.n x).2):=by unfold feedK;rw[if_neg (by omega),if_neg (by omega),if_pos hk]
  have hg:gain m.kind=24:=by unfold gain;rw[if_pos hk]
  rw[e,w12 (.inr hk),w12 (.inr rfl),hg];simp only[bare];unfold Fol.feedI;rw[if_pos h.n,Nor.Xe7 (Nor.Xa3 h.n)];have h1:=Nor.Xhp m.n (Nfk.madeI (Fol.leftI [x]));have h2:=Nor.X3u (Fol.leftI [x]);have h3:=Fol.XgD x;omega
 ·have e:feedK m x=({ bare 3 with g:=(Sgm.feedI m.g m.s x).1.1,s:=(Sgm.feedI m.g m.s x).1.2 },cutOf (Sgm.feedI m.g m.s x).2):=by unfold feedK;rw[if_neg (by omega),if_neg (by omega),if_neg (by omega),if_pos hk]
  have hg:gain m.kind=8:=by unfold gain;rw[if_neg (by omega)]
  rw[e,w3 hk,w3 rfl,hg];simp only[bare];have h1:=XlH (Sgm.feedI m.g m.s x).2;have h2:(Sgm.feedI m.g m.s x).1.1.length+(Sgm.feedI m.g m.s x).2.length≤m.g.length+1:=by
   unfold Sgm.feedI;rw[if_pos h.g];unfold Sgm.stepI
   split <;> simp
   omega
  omega
 ·have hg:gain m.kind=8:=by unfold gain;rw[if_neg (by omega)]
  rw[w4 hk,hg];by_cases hx:x= -1
  ·have e:feedK m x=(bare 4,X0M (Frm.putF m.c)):=by unfold feedK;rw[if_neg (by omega),if_neg (by omega),if_neg (by omega),if_neg (by omega),if_pos hx]
   have:=X9Y m.c;rw[e,w4 rfl];simp only[bare,X0M,List.length_map,List.length_nil];omega
  ·by_cases hl:m.c.length=32
   ·have e:feedK m x=(m,[]):=by unfold feedK;rw[if_neg (by omega),if_neg (by omega),if_neg (by omega),if_neg (by omega),if_neg hx,if_pos hl]
    rw[e,w4 hk];simp
   ·have e:feedK m x=({ bare 4 with c:=m.c++ [x] },[]):=by unfold feedK;rw[if_neg (by omega),if_neg (by omega),if_neg (by omega),if_neg (by omega),if_neg hx,if_neg hl]
    rw[e,w4 rfl];simp only[bare,List.length_append,List.length_cons,List.length_nil];omega
theorem Xvg{m:MS}(h:Sane m):X5p m≤128∧(m.kind=2→X5p m≤31):=by
 have h2:=Nor.X6K (Nor.Xa3 h.n);have h3:m.g.length≤32:=by
  have:=h.g;unfold Sgm.saneB at this;simp only[Bool.and_eq_true,decide_eq_true_eq] at this;exact this.1.1
 have h4:=h.c;have h5:Dec.cnt m.d≤1:=by unfold Dec.cnt;split <;> omega
 unfold X5p;refine⟨?_,fun hk=>?_⟩
 ·split
  ·omega
  ·split
   ·omega
   ·split <;> omega
 ·rw[if_neg (by omega),if_pos (.inr hk)];omega
theorem Xkl(m:MS)(h:saneM m=true)(b:List Int):X5p (X0N m b).1+(X0N m b).2.length≤X5p m+gain m.kind *b.length:=by
 induction b generalizing m with
 | nil=>simp [X0N]
 |
  cons x t ih=>
  obtain⟨h1,h2⟩:=X3G m x;have h3:=ih _ h1;have h4:=Xmp ((X1b m).1 h) x;have e:feedM m x=feedK m x:=by unfold feedM;rw[X2E h]
  rw[X2E h] at h2;rw[h2] at h3;rw[e] at h3;simp only[X0N,e,List.length_append,List.length_cons];rw[Nat.mul_succ];omega
theorem Xqy(m:MS)(h:saneM m=true)(b:List Int)(hb:b.length≤8):(X0N m b).2.length≤256:=by
 have h1:=Xkl m h b;obtain⟨h2,h3⟩:=Xvg ((X1b m).1 h);by_cases hk:m.kind=2
 ·have h4:=h3 hk;have e:gain m.kind=24:=by unfold gain;rw[if_pos hk]
  rw[e] at h1;omega
 ·have e:gain m.kind=8:=by unfold gain;rw[if_neg hk]
  rw[e] at h1;omega
theorem X6c(s:St)(i o:Ch):SaneS (stepS s i o).1∧saneC (stepS s i o).2.1=true∧saneC (stepS s i o).2.2.1=true∧(stepS s i o).1.m.kind=(asS s).m.kind:=by
 have hs:=XnT s;have hi:=X2I i;have ho:=X2I o;unfold stepS stepK;generalize asS s=t at hs ⊢;generalize asC i=i at hi ⊢;generalize asC o=o at ho ⊢
 split
 ·exact⟨hs,hi,ho,rfl⟩
 ·split
  ·split
   ·refine⟨⟨hs.m,by have:=hs.pend;simp;omega,hs.ended,(by intro h;cases h)⟩,hi,X6i _ _,rfl⟩
   ·exact⟨hs,hi,ho,rfl⟩
  ·split
   ·rename_i he;exact⟨⟨hs.m,by simp,fun _=>hs.ended he,fun _=>⟨rfl,rfl⟩⟩,hi,X3T _,rfl⟩
   ·split
    ·rename_i b r e;have h1:=(X11 _).1 hi;rw[e] at h1;have hb:=h1.2 b (List.mem_cons_self ..);obtain⟨g1,g2⟩:=Xqx t.m hs.m b;refine⟨⟨g1,Xqy t.m hs.m b hb.2,(by intro h;cases h),(by intro h;cases h)⟩,?_,ho,g2⟩;exact(X11 _).2 ⟨by have:=h1.1;simp at this ⊢;omega,fun x hx=>h1.2 x (List.mem_cons_of_mem _ hx)⟩
    ·split
     ·obtain⟨g1,g2,g3,_⟩:=X5D t.m;refine⟨⟨g2,Nat.le_trans g1 (by decide),fun _=>?_,(by intro h;cases h)⟩,hi,ho,by rw[←X2E hs.m];exact(X5D (asM t.m)).2.2.1.trans (by rw[X2E (X8P _)])⟩
      show (endM t.m).1=newM (endM t.m).1.kind
      show newM (asM t.m).kind=newM (newM (asM t.m).kind).kind
      have hk:=((X1b _).1 (X8P t.m)).kind;have:(newM (asM t.m).kind).kind=(asM t.m).kind:=by unfold newM;rw[if_pos hk];rfl
      rw[this]
     ·exact⟨hs,hi,ho,rfl⟩
end Go.Proofs.YtkofnpkopbnocaaGreatDoor.Stg
namespace Go.Proofs.YtkofnpkopbnocaaGreatDoor.Stg
open Mch
theorem XG3{m:MS}(h:saneM m=true):costM m=0↔(m.n= []∧m.d= []∧m.g= []∧m.s=Clu.zero∧m.c= []):=by
 have hs:=(X1b m).1 h;unfold costM;rw[if_pos h];constructor
 ·intro e;have hn:m.n= []:=List.eq_nil_of_length_eq_zero (by omega);have hd:m.d= []:=List.eq_nil_of_length_eq_zero (by omega);have hg:m.g= []:=List.eq_nil_of_length_eq_zero (by omega);have hc:m.c= []:=List.eq_nil_of_length_eq_zero (by omega);refine⟨hn,hd,hg,?_,hc⟩;have h2:=hs.g;unfold Sgm.saneB at h2;rw[hg] at h2;simp only[Bool.and_eq_true,decide_eq_true_eq,List.isEmpty_nil,Bool.not_true,beq_iff_eq] at h2;have h3:=h2.1.2;have h4:=h2.2;unfold Clu.saneB at h3;simp [h4] at h3;exact h3
 ·rintro ⟨a,b,c,_,d⟩;rw[a,b,c,d];rfl
theorem XG5(s:St):saneS s=(saneM s.m && decide (s.pend.length≤256) && (!s.ended || decide (costM s.m=0)) && (!s.shut || (s.ended && decide (s.pend.length=0)))):=by
 unfold saneS;have e:s.pend.isEmpty=decide (s.pend.length=0):=by cases s.pend <;> simp
 rw[e];cases h:saneM s.m with
 | false=>rfl
 |
  true=>
  have:=XG3 h;rw[decide_eq_decide.2 this.symm]
theorem XG6(c:Ch):putC c []=(asC c,false):=by
 unfold putC;rw[if_neg];intro h;exact absurd h.1 (by decide)
end Go.Proofs.YtkofnpkopbnocaaGreatDoor.Stg
