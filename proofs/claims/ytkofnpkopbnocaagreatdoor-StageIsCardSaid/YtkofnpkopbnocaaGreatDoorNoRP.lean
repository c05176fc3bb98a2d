import Derived.Test.YtkofnpkopbnocaaGreatDoorCnRP
import Derived.Test.YtkofnpkopbnocaaGreatDoorDeRP
import Derived.Test.YtkofnpkopbnocaaGreatDoorMatP
import Derived.Test.YtkofnpkopbnocaaGreatDoorKP
import Derived.Test.YtkofnpkopbnocaaGreatDoorBasP
set_option linter.unusedSimpArgs false
set_option linter.unusedVariables false
set_option maxRecDepth 100000
set_option maxHeartbeats 6400000
namespace Go.Proofs.YtkofnpkopbnocaaGreatDoor
open Go.RowKit Go.Lib
theorem Xu9(a b x:Int)(h:Par.joinI a b=some x)(w:World):Calls Tryz.prog 162 #[.int .i64 a, .int .i64 b] w fun e w'=>e= .returned (.tuple #[.int .i64 x, .bool true])∧w=w':=by
 have:=Xuo a b w;rw[h] at this;exact this
theorem Xua(a b:Int)(h:Par.joinI a b=none)(w:World):Calls Tryz.prog 162 #[.int .i64 a, .int .i64 b] w fun e w'=>e= .returned (.tuple #[.int .i64 0, .bool false])∧w=w':=by
 have:=Xuo a b w;rw[h] at this;exact this
theorem Xxy(l:List Int)(x:Int):Nor.cntI (l++ [x])=Nor.cntI l+if Prp.mrkB x=true then 1 else 0:=by
 unfold Nor.cntI;rw[List.filter_append,List.length_append]
 split <;> simp_all
theorem Xb9(v:Value)(l:List Int)(w:World)(hl:l.length≤1000000)(hv:RI w v l):Calls Tryz.prog 106 #[v] w fun e w'=>e= .returned (.int .i64 (Nor.cntI l:Nat))∧Below w.heap.size w w':=by
 obtain⟨p,cap,rfl⟩:=X0b hv;replace hv:=hid hv;go_enter Tryz.func106,Tryz.ntmps106;go_wp2_with fail;go_loopg [3,4] l.length (fun g va vi wr=>∃k a:Nat,k≤l.length∧va= .int .i64 a∧vi= .int .i64 k∧g=l.length - k∧a≤k∧Hid (Nor.cntI (l.take k)=a)∧Below w.heap.size w wr)
 case atStart=>exact⟨0,0,Nat.zero_le _,rfl,rfl,rfl,Nat.le_refl _,hid rfl,Below.refl _ _⟩
 case round=>
  obtain⟨k,a,hk,rfl,rfl,rfl,o,d,c⟩:=hrel;by_cases hlt:k<l.length
  ·have n:(k:Int)<(l.length:Int):=by omega
   obtain⟨b,off,rfl,hb,i⟩:=ri_at hv.out (by omega);have hc:wr.cell? ⟨b,off+k,none⟩=some (.int .i64 l[k]):=(c.cell hb).trans (i k hlt);have hs:=Xxy (l.take k) l[k];rw[←List.take_succ_eq_append_getElem hlt,d.out] at hs;obtain⟨x,hx⟩: ∃x,l[k]=x:=⟨_,rfl⟩;rw[hx] at hc hs;have f:=XuB x;cases m:Prp.mrkB x with
   |
    true=>
    rw[m] at f hs;simp only[if_true] at hs;replace f:=hid f;replace hs:=hid hs;replace c:=hid c;clear i hx m d;go_wp2_with fail;refine(f.out _).mono ?_;rintro e w2 ⟨rfl,h⟩;replace h:=hid (X05 c.out h);go_wp2_with fail;go_roundg (l.length - (k+1))
    case measure=>omega
    case rel=>exact⟨k+1,a+1,by omega,by go_num,by go_num,rfl,by omega,hs,h.out⟩
   |
    false=>
    rw[m] at f hs;simp only[Bool.false_eq_true,if_false,Nat.add_zero] at hs;replace f:=hid f;replace hs:=hid hs;replace c:=hid c;clear i hx m d;go_wp2_with fail;refine(f.out _).mono ?_;rintro e w2 ⟨rfl,h⟩;replace h:=hid (X05 c.out h);go_wp2_with fail;go_roundg (l.length - (k+1))
    case measure=>omega
    case rel=>exact⟨k+1,a,by omega,rfl,by go_num,rfl,by omega,hs,h.out⟩
  ·obtain rfl:k=l.length:=by omega
   have n:decide ((l.length:Int)<(l.length:Int))=false:=by simp
   have j:=d.out;rw[List.take_length] at j;replace j:=hid j;replace c:=hid c;clear d;go_wp2_with fail;go_ret;exact⟨by rw[j.out];rfl,c.out⟩
def Two(p:List Int × List Int)(w:World)(e:Ending)(w':World):Prop:=∃va vb,e= .returned (.tuple #[va,vb])∧OwnI w.heap.size va p.1 w'∧RI w' vb p.2∧Below w.heap.size w w'
theorem Xxz{l:List Int}{x d:Int}(h:Can.X0s l= [x])(hx:Prp.mrkB x=false):Nor.headI l d=match Par.joinI x d with | some v=>([v],[]) | none=>([d],[x]):=by
 unfold Nor.headI;rw[h];simp only[hx,if_true];cases Par.joinI x d <;> rfl
theorem XlZ{l:List Int}{x d:Int}(h:Can.X0s l= [x])(hx:Prp.mrkB x=true):Nor.headI l d=([d],[x]):=by
 unfold Nor.headI;rw[h];simp [hx]
theorem Xub{l:List Int}{d:Int}(h:(Can.X0s l).length≠1):Nor.headI l d=([d],Can.X0s l):=by
 unfold Nor.headI
 split
 ·rename_i x e;rw[e] at h;simp at h
 ·rfl
theorem XjQ(v:Value)(l:List Int)(d:Int)(w:World)(hl:l.length≤1000000)(hv:RI w v l):Calls Tryz.prog 154 #[v, .int .i64 d] w (Two (Nor.headI l d) w):=by
 have i:=hid (X5x v l w hl hv);have q:=Can.X1k l;have h1:=fun x=>@Xxz l x d;have h2:=fun x=>@XlZ l x d;have h3:=@Xub l d;obtain⟨c,hc⟩: ∃c,Can.X0s l=c:=⟨_,rfl⟩;rw[hc] at i q h1 h2 h3;clear hc;by_cases hc1:c.length=1
 ·obtain⟨x,rfl⟩: ∃x,c= [x]:=List.length_eq_one_iff.1 hc1;have j:=XuB x;clear hc1 h3 q;cases m:Prp.mrkB x with
  |
   true=>
   rw[h2 x rfl m];rw[m] at j;replace j:=hid j;clear h1 h2 m;go_enter Tryz.func154,Tryz.ntmps154;go_wp2_with fail;refine i.out.mono ?_;rintro e w1 ⟨v1,rfl,h,b⟩;obtain⟨g,cp,rfl,_,hg,f⟩:=X9K h (by simp);have c0:=f 0 (by simp);simp only[List.length_singleton,List.getElem_cons_zero] at c0 h ⊢;have k:=hid h;replace b:=hid b;clear f h;go_wp2_with fail;refine(j.out _).mono ?_;rintro e w2 ⟨rfl,a⟩;have o:=hid (X0a (X0x k.out a));replace a:=hid (X05 b.out a);go_wp2_with fail
   go_ret2
   exact⟨_,_,rfl,(X0H w.heap.size w2 [d] #[.int .i64 d] _ 1 rfl a.out.size rfl rfl (by unfold maxLen;omega)),X03 o.out (X04 w2 _),a.out.alloc a.out.size _⟩
  |
   false=>
   have hh:=h1 x rfl m;rw[m] at j;replace j:=hid j;clear h1 h2 m;cases hj:Par.joinI x d with
   |
    none=>
    rw[hj] at hh;rw[hh];have n:=hid (Xua x d hj);clear hh hj;go_enter Tryz.func154,Tryz.ntmps154;go_wp2_with fail;refine i.out.mono ?_;rintro e w1 ⟨v1,rfl,h,b⟩;obtain⟨g,cp,rfl,_,hg,f⟩:=X9K h (by simp);have c0:=f 0 (by simp);simp only[List.length_singleton,List.getElem_cons_zero] at c0 h ⊢;have k:=hid h;replace b:=hid b;clear f h;go_wp2_with fail;refine(j.out _).mono ?_;rintro e w2 ⟨rfl,a⟩;have o:=hid (X0a (X0x k.out a));have c2:w2.cell? ⟨g,0,none⟩=some (.int .i64 x):=(a.cell hg).trans c0;replace a:=hid (X05 b.out a);go_wp2_with fail;refine(n.out _).mono ?_;rintro e w3 ⟨rfl,rfl⟩
    go_wp2_with fail
    go_ret2
    exact⟨_,_,rfl,(X0H w.heap.size w2 [d] #[.int .i64 d] _ 1 rfl a.out.size rfl rfl (by unfold maxLen;omega)),X03 o.out (X04 w2 _),a.out.alloc a.out.size _⟩
   |
    some y=>
    rw[hj] at hh;rw[hh];have n:=hid (Xu9 x d y hj);clear hh hj;go_enter Tryz.func154,Tryz.ntmps154;go_wp2_with fail;refine i.out.mono ?_;rintro e w1 ⟨v1,rfl,h,b⟩;obtain⟨g,cp,rfl,_,hg,f⟩:=X9K h (by simp);have c0:=f 0 (by simp);simp only[List.length_singleton,List.getElem_cons_zero] at c0 h ⊢;replace b:=hid b;clear f h;go_wp2_with fail;refine(j.out _).mono ?_;rintro e w2 ⟨rfl,a⟩;have c2:w2.cell? ⟨g,0,none⟩=some (.int .i64 x):=(a.cell hg).trans c0;replace a:=hid (X05 b.out a);go_wp2_with fail;refine(n.out _).mono ?_;rintro e w3 ⟨rfl,rfl⟩;go_wp2_with fail
    go_ret2
    exact⟨_,_,rfl,(X0H w.heap.size w2 [y] #[.int .i64 y] _ 1 rfl a.out.size rfl rfl (by unfold maxLen;omega)),X9J _,a.out.alloc a.out.size _⟩
 ·rw[h3 hc1];have r:((c.length:Int) == 1)=false:=beq_eq_false_iff_ne.2 (by omega);clear h1 h2 h3 hc1;go_enter Tryz.func154,Tryz.ntmps154;go_wp2_with fail;refine i.out.mono ?_;rintro e w1 ⟨v1,rfl,h,b⟩;obtain⟨p,cp,rfl⟩:=X0b (X0a h);have k:=hid h;replace b:=hid b;clear h;go_wp2_with fail
  go_ret2
  exact⟨_,_,rfl,(X0H w.heap.size w1 [d] #[.int .i64 d] _ 1 rfl b.out.size rfl rfl (by unfold maxLen;omega)),X03 (X0a k.out) (X04 w1 _),b.out.alloc b.out.size _⟩
theorem XyO(l:List Int)(d:Int):Nor.insI l d=Can.insF l d:=rfl
theorem XjR(v:Value)(l:List Int)(d:Int)(w:World)(hl:l.length≤1000000)(hv:RI w v l):Calls Tryz.prog 121 #[v, .int .i64 d] w (Two (Nor.putI l d) w):=by
 have h:=XuB d;unfold Nor.putI;cases r:Prp.mrkB d with
 |
  false=>
  rw[if_neg (by simp)];rw[r] at h;replace h:=hid h;replace hv:=hid hv;obtain⟨p,hp⟩: ∃p,Nor.headI l d=p:=⟨_,rfl⟩;rw[hp];replace hp:=hid hp;clear r;go_enter Tryz.func121,Tryz.ntmps121;go_wp2_with fail;refine(h.out _).mono ?_;rintro e w1 ⟨rfl,a⟩;have hh:=XjQ v l d w1 hl (X03 hv.out a);rw[hp.out] at hh;replace hh:=hid hh;replace a:=hid a;go_wp2_with fail;refine hh.out.mono ?_;rintro e w2 ⟨va,vb,rfl,ha,j,b⟩;replace ha:=hid (X0w ha a.out.size);replace j:=hid j;replace b:=hid (X05 a.out b);go_wp2_with fail
  go_ret2
  exact⟨_,_,rfl,ha.out,j.out,b.out⟩
 |
  true=>
  rw[if_pos rfl];rw[r] at h;replace h:=hid h;replace hv:=hid hv;clear r;by_cases k:Nor.cntI l=30
  ·rw[if_pos k,Nor.XlW];have hp:=Nor.XlW l;rw[XyO];obtain⟨q,hq⟩: ∃q,Can.X0s l=q:=⟨_,rfl⟩;rw[hq] at hp ⊢;obtain⟨u,hu⟩: ∃u,Can.insF [847] d=u:=⟨_,rfl⟩;rw[hu];replace hp:=hid hp;replace hq:=hid hq;replace hu:=hid hu;replace k:=hid k;go_enter Tryz.func121,Tryz.ntmps121;go_wp2_with fail;refine(h.out _).mono ?_;rintro e w1 ⟨rfl,a⟩;have g:=Xb9 v l w1 hl (X03 hv.out a);rw[k.out] at g;replace g:=hid g;replace a:=hid a;go_wp2_with fail;refine g.out.mono ?_;rintro e w2 ⟨rfl,b⟩;replace b:=hid (X05 a.out b);have hh:=XjQ v l 847 w2 hl (X03 hv.out b.out);rw[hp.out] at hh;replace hh:=hid hh;go_wp2_with fail
   refine hh.out.mono ?_;rintro e w3 ⟨va,vb,rfl,ha,j,o⟩;have f:=X8E va [847] d w3 (by simp) (X0a ha);rw[hu.out] at f;replace f:=hid f;replace j:=hid j;replace o:=hid (X05 b.out o);clear ha;go_wp2_with fail;refine f.out.mono ?_;rintro e w4 ⟨v4,rfl,m,i⟩;have t:=hid (X03 j.out i);have n:=hid (X0w m o.out.size);replace i:=hid (X05 o.out i);clear m;go_wp2_with fail
   go_ret2
   exact⟨_,_,rfl,n.out,t.out,i.out⟩
  ·rw[if_neg k,XyO];have s:((Nor.cntI l:Int) == 30)=false:=beq_eq_false_iff_ne.2 (by omega);obtain⟨c,hc⟩: ∃c,Nor.cntI l=c:=⟨_,rfl⟩;rw[hc] at s;obtain⟨u,hu⟩: ∃u,Can.insF l d=u:=⟨_,rfl⟩;rw[hu];replace hc:=hid hc;replace hu:=hid hu;clear k;go_enter Tryz.func121,Tryz.ntmps121;go_wp2_with fail;refine(h.out _).mono ?_;rintro e w1 ⟨rfl,a⟩;have g:=Xb9 v l w1 hl (X03 hv.out a);rw[hc.out] at g;replace g:=hid g;replace a:=hid a;go_wp2_with fail;refine g.out.mono ?_;rintro e w2 ⟨rfl,b⟩;replace b:=hid (X05 a.out b);have f:=X8E v l d w2 hl (X03 hv.out b.out);rw[hu.out] at f;replace f:=hid f;go_wp2_with fail
   refine f.out.mono ?_;rintro e w4 ⟨v4,rfl,m,i⟩;have n:=hid (X0w m b.out.size);replace i:=hid (X05 b.out i);clear m;go_wp2_with fail
   go_ret2
   exact⟨_,_,rfl,n.out,X9J _,i.out⟩
theorem Xba(v:Value)(l:List Int)(w:World)(hl:l.length≤100000)(hv:RI w v l):Calls Tryz.prog 80 #[.agg #[v]] w fun e w'=>e= .returned (.bool (Nor.saneB l))∧Below w.heap.size w w':=by
 obtain⟨p,cap,rfl⟩:=X0b hv;have i:=X0g w #[.slice p l.length cap] 26;have f:=X04 w (.cells #[.slice p l.length cap] 26);have L: ∀ {wr:World},Below w.heap.size w wr→True:=fun _=>trivial;have z:(w.alloc (.cells #[.slice p l.length cap] 26)).heap.size=w.heap.size+1:=by simp
 obtain⟨W,hW⟩: ∃W,w.alloc (.cells #[.slice p l.length cap] 26)=W:=⟨_,rfl⟩;have r:=X03 hv f;rw[hW] at i f z r;have K:Nor.saneB l=(l.tail.all Prp.mrkB && decide (Nor.cntI l≤30) && Can.X21 l):=rfl;rw[K];obtain⟨S,hS⟩: ∃S,Can.X21 l=S:=⟨_,rfl⟩;obtain⟨C,hC⟩: ∃C,Nor.cntI l=C:=⟨_,rfl⟩;rw[hS,hC];obtain⟨R,hR⟩: ∃R,(l.tail.all Prp.mrkB && decide (C≤30) && S)=R:=⟨_,rfl⟩;rw[hR];replace hR:=hid hR;replace i:=hid i;replace f:=hid f;replace z:=hid z;replace r:=hid r;replace hS:=hid hS;replace hC:=hid hC;replace hW:=hid hW;clear K hv L;go_enter Tryz.func80,Tryz.ntmps80;go_upto_region 1 with(fail);rw[hW.out]
 have b0:=X00 i.out 0 _ rfl;go_wp2_with fail;go_loopg [3] (l.length - 1) (fun g vi wr=>∃k:Nat,1≤k∧(k≤l.length∨k=1)∧vi= .int .i64 k∧g=l.length - k∧Hid (∀j (hj:j<l.length),1≤j→j<k→Prp.mrkB l[j]=true)∧Below W.heap.size W wr)
 case atStart=>exact⟨1,Nat.le_refl _, .inr rfl,rfl,rfl,hid fun j hj h1 h2=>by omega,Below.refl _ _⟩
 case round=>
  obtain⟨k,M,E,rfl,rfl,u,c⟩:=hrel;have O:w.heap.size<W.heap.size:=by rw[z.out];omega
  have c0:=X00 (X02 i.out c) 0 _ rfl;have hB:=hid (f.out.trans (c.mono f.out.size));by_cases hlt:k<l.length
  ·have H:(k:Int)<(l.length:Int):=by omega
   have N:k≤l.length:=by omega
   obtain⟨b,off,rfl,hb,o⟩:=ri_at r.out (by omega);have hc:wr.cell? ⟨b,off+k,none⟩=some (.int .i64 l[k]):=(c.cell hb).trans (o k hlt);obtain⟨x,hx⟩: ∃x,l[k]=x:=⟨_,rfl⟩;rw[hx] at hc;have n:=XuB x;cases q:Prp.mrkB x with
   |
    true=>
    rw[q] at n;replace n:=hid n;have I:Hid (∀j (hj:j<l.length),1≤j→j<k+1→Prp.mrkB l[j]=true):=hid fun j hj h1 h2=>by
     rcases Nat.lt_or_ge j k with h | h
     ·exact u.out j hj h1 h
     ·obtain rfl:j=k:=by omega
      rw[hx,q]
    replace c:=hid c;clear o hx q u E;go_wp2_with fail;refine(n.out _).mono ?_;rintro e w2 ⟨rfl,d⟩;replace d:=hid (X05 c.out d);go_wp2_with fail;go_roundg (l.length - (k+1))
    case measure=>omega
    case rel=>exact⟨k+1,by omega, .inl (by omega),by go_num,rfl,I,d.out⟩
   |
    false=>
    rw[q] at n;replace n:=hid n;have F:false=R:=by
     rw[←hR.out];have:l.tail.all Prp.mrkB=false:=by
      rw[List.all_eq_false];refine⟨x,?_,by rw[q];simp⟩;rw[←hx];cases l with
      | nil=>simp at hlt
      |
       cons a t=>
       cases k with
       | zero=>omega
       | succ k=>simp
     rw[this];rfl
    replace F:=hid F;replace c:=hid c;clear o hx q u E;go_wp2_with fail;refine(n.out _).mono ?_;rintro e w2 ⟨rfl,d⟩;replace d:=hid (X05 c.out d);go_wp2_with fail;go_ret;exact⟨X0p F.out,f.out.trans (d.out.mono f.out.size)⟩
  ·have H:decide ((k:Int)<(l.length:Int))=false:=by simp;omega
   have B:l.tail.all Prp.mrkB=true:=by
    rw[List.all_eq_true];intro y hy;obtain⟨j,hj,rfl⟩:=List.mem_iff_getElem.1 hy;rw[List.length_tail] at hj;rw[List.getElem_tail];exact u.out (j+1) (by omega) (by omega) (by omega)
   have m:=hR.out;rw[B,Bool.true_and] at m;have s:=Xb9 (.slice p l.length cap) l wr (by omega) (X03 r.out c);rw[hC.out] at s;replace s:=hid s;replace c:=hid c;clear u B E;by_cases h30:C≤30
   ·have G:(C:Int)≤30:=by omega
    rw[decide_eq_true h30,Bool.true_and] at m;replace m:=hid m;go_wp2_with fail;refine s.out.mono ?_;rintro e w2 ⟨rfl,d⟩;replace d:=hid (X05 c.out d);have c2:=X00 (X02 i.out d.out) 0 _ rfl;have A:=XcM (.slice p l.length cap) l w2 hl (X03 r.out d.out);rw[hS.out] at A;replace A:=hid A;go_wp2_with fail;refine A.out.mono ?_;rintro e w3 ⟨rfl,D⟩;replace D:=hid (X05 d.out D);go_wp2_with fail;go_ret;exact⟨X0p m.out,f.out.trans (D.out.mono f.out.size)⟩
   ·have G:decide ((C:Int)≤30)=false:=by simp;omega
    rw[decide_eq_false h30,Bool.false_and] at m;replace m:=hid m;go_wp2_with fail;refine s.out.mono ?_;rintro e w2 ⟨rfl,d⟩;replace d:=hid (X05 c.out d);go_wp2_with fail;go_ret;exact⟨X0p m.out,f.out.trans (d.out.mono f.out.size)⟩
theorem XjS(v:Value)(l:List Int)(w:World)(hl:l.length≤100000)(hv:RI w v l):Calls Tryz.prog 71 #[.agg #[v]] w (Makes (Nor.endI l) w):=by
 obtain⟨p,cap,rfl⟩:=X0b hv;have d:=X0g w #[.slice p l.length cap] 26;have f:=X04 w (.cells #[.slice p l.length cap] 26);obtain⟨W,hW⟩: ∃W,w.alloc (.cells #[.slice p l.length cap] 26)=W:=⟨_,rfl⟩;have g:=X03 hv f;rw[hW] at d f g;have a:=Xba (.slice p l.length cap) l W hl g;unfold Nor.endI;replace d:=hid d;replace f:=hid f;replace g:=hid g;replace hW:=hid hW;clear hv;cases hS:Nor.saneB l with
 |
  true=>
  rw[if_pos rfl];rw[hS] at a;replace a:=hid a;obtain⟨c,hc⟩: ∃c,Can.X0s l=c:=⟨_,rfl⟩;rw[hc];replace hc:=hid hc;clear hS;go_enter Tryz.func71,Tryz.ntmps71;go_upto_region 1 with(fail);rw[hW.out];have b0:=X00 d.out 0 _ rfl;go_wp2_with fail;refine a.out.mono ?_;rintro e w2 ⟨rfl,b⟩;have c2:=X00 (X02 d.out b) 0 _ rfl;have h:=X5x (.slice p l.length cap) l w2 (by omega) (X03 g.out b);rw[hc.out] at h;replace h:=hid h;replace b:=hid (f.out.trans (b.mono f.out.size));go_wp2_with fail;refine h.out.mono ?_;rintro e w3 ⟨v3,rfl,j,i⟩;have k:=hid (X0w j b.out.size);replace i:=hid (X05 b.out i);clear j
  go_wp2_with fail;go_ret;exact⟨_,rfl,k.out,i.out⟩
 |
  false=>
  rw[if_neg (by simp)];rw[hS] at a;replace a:=hid a;clear hS;go_enter Tryz.func71,Tryz.ntmps71;go_upto_region 1 with(fail);rw[hW.out];have b0:=X00 d.out 0 _ rfl;go_wp2_with fail;refine a.out.mono ?_;rintro e w2 ⟨rfl,b⟩;replace b:=hid (f.out.trans (b.mono f.out.size));go_wp2_with fail;go_ret;exact⟨_,rfl,X0O _ _,b.out⟩
def XCt(p:List Int × List Int)(w:World)(e:Ending)(w':World):Prop:=∃va vb,e= .returned (.tuple #[.agg #[va],vb])∧OwnI w.heap.size va p.1 w'∧RI w' vb p.2∧Below w.heap.size w w'
def XCu(p:List Int × List Int)(w:World)(e:Ending)(w':World):Prop:=∃va vb,e= .returned (.tuple #[.agg #[va],vb])∧OwnI w.heap.size va p.1 w'∧OwnI w.heap.size vb p.2 w'∧Below w.heap.size w w'
theorem XpM(v:Value)(l:List Int)(r:Int)(w:World)(hl:l.length≤100000)(hv:RI w v l):Calls Tryz.prog 93 #[.agg #[v], .int .i64 r] w (XCu (Nor.feedI l r) w):=by
 obtain⟨i0,hi,ae,af,ag⟩:=info_parts X2p;obtain⟨p,cap,rfl⟩:=X0b hv;have V:=X0g w #[.slice p l.length cap] 26;have A:=X0l V (.cells #[.slice none 0 0] 26);have i:=X0g (w.alloc (.cells #[.slice p l.length cap] 26)) #[.slice none 0 0] 26;rw[show (w.alloc (.cells #[.slice p l.length cap] 26)).heap.size=w.heap.size+1 by simp] at i;have B:Below w.heap.size w ((w.alloc (.cells #[.slice p l.length cap] 26)).alloc (.cells #[.slice none 0 0] 26)):=(X04 w _).alloc (by simp) _;obtain⟨W,hW⟩: ∃W,(w.alloc (.cells #[.slice p l.length cap] 26)).alloc (.cells #[.slice none 0 0] 26)=W:=⟨_,rfl⟩;have S:=X03 hv B
 rw[hW] at A i B S;have n:=Xba (.slice p l.length cap) l W hl S;have N:=hid (XaU r);unfold Nor.feedI;obtain⟨D,hD⟩: ∃D,Dcp.fullI r=D:=⟨_,rfl⟩;have ai:=(Dcp.X1U r).2;have ah:=(Dcp.X1U r).1;rw[hD] at N ai ah ⊢;replace A:=hid A;replace i:=hid i;replace B:=hid B;replace S:=hid S;replace hW:=hid hW;clear hv V hD;cases hS:Nor.saneB l with
 |
  true=>
  rw[if_pos rfl];rw[hS] at n;replace n:=hid n;obtain⟨P,hP⟩: ∃P,Nor.runI l D=P:=⟨_,rfl⟩;have s:=Nor.Xhp l;rw[hP];replace hP:=hid hP;replace s:=hid s;clear hS;go_enter Tryz.func93,Tryz.ntmps93;go_upto_region 1 with(fail);rw[hW.out];have b0:=X00 A.out 0 _ rfl;go_wp2_with fail;refine n.out.mono ?_;rintro e w2 ⟨rfl,C⟩;have c2:=X00 (X02 A.out C) 0 _ rfl;have al:=hid (X03 S.out C);have a5:=hid (X02 i.out C);replace C:=hid C;clear b0;go_wp2_with fail;refine(N.out _).mono ?_;rintro e w3 ⟨vD,rfl,H,y⟩;obtain⟨pD,cD,rfl⟩:=X0b H;have a9:=hid (X03 al.out y);have an:=hid (X02 a5.out y)
  replace y:=hid (C.out.trans (y.mono C.out.size));replace H:=hid H;clear c2;go_wp2_with fail;go_loopg [6,7,9] D.length (fun g vl vo vi wr=>∃k:Nat,k≤D.length∧vi= .int .i64 k∧g=D.length - k∧RI wr vl (Nor.runI l (D.take k)).1∧(k=0∨OwnI w3.heap.size vl (Nor.runI l (D.take k)).1 wr)∧OwnI w3.heap.size vo (Nor.runI l (D.take k)).2 wr∧Below w3.heap.size w3 wr)
  case atStart=>exact⟨0,Nat.zero_le _,rfl,rfl,a9.out, .inl rfl,X0O _ _,Below.refl _ _⟩
  case round=>
   obtain⟨k,hk,rfl,rfl,z,t,c,f⟩:=hrel;by_cases hlt:k<D.length
   ·have a1:(k:Int)<(D.length:Int):=by omega
    obtain⟨b,off,rfl,hb,E⟩:=ri_at H.out (by omega);have hc:wr.cell? ⟨b,off+k,none⟩=some (.int .i64 D[k]):=(f.cell hb).trans (E k hlt);have a4:D.take (k+1)=D.take k++ [D[k]]:=by rw[List.take_succ_eq_append_getElem hlt]
    have a:=X81 l (D.take k) D[k];rw[←a4] at a;have G:=s.out (D.take k);have h:=s.out (D.take (k+1));rw[a] at h;obtain⟨d,hd⟩: ∃d,D[k]=d:=⟨_,rfl⟩;rw[hd] at hc a h;obtain⟨m,hm⟩: ∃m,(Nor.runI l (D.take k)).1=m:=⟨_,rfl⟩;obtain⟨o,ho⟩: ∃o,(Nor.runI l (D.take k)).2=o:=⟨_,rfl⟩;rw[hm] at z a G h;rw[ho] at c a G h;simp only[List.length_take,List.length_append] at G h;have x:=XjR _ m d wr (by omega) z;obtain⟨q,hq⟩: ∃q,Nor.putI m d=q:=⟨_,rfl⟩;rw[hq] at x a h;obtain⟨q1,q2⟩:=q;have aj:o.length≤200000:=by omega
    have ak:q2.length≤200000:=by dsimp only at h;omega
    replace x:=hid x;replace a:=hid a;replace c:=hid c;replace f:=hid f;clear E a4 hd hm ho hq G h z t;go_wp2_with fail;refine x.out.mono ?_;rintro e w5 ⟨va,vb,rfl,ha,U,L⟩;have a2:=hid (X0x c.out L);have a8:=hid (X0Y U);have K:=hid (f.out.trans (L.mono f.out.size));replace ha:=hid ha;clear L U
    go_wp2_with (at_builtin;refine X0c rfl _ _ 24 rfl w3.heap.size 3 i0 (.int .i64 0) 8 Tryz.underlying24 hi ae af ag rfl _ _ _ rfl a2.out _ _ rfl a8.out (X0u _) (by simp only[List.length_map,List.length_append,List.length_take,List.length_drop,List.length_cons,List.length_nil,List.length_singleton];unfold maxLen;omega) (by simp only[List.length_map,List.length_append,List.length_take,List.length_drop,List.length_cons,List.length_nil,List.length_singleton];omega) K.out.size ?_;intro v6 w6 a3 O;have o6:=hid (X0i (l:=o++q2) a3 (by(try simp);try omega) (by(try simp);try omega));have b6:=hid (X0k K.out O K.out.size a2.out (Nat.le_refl _));have T:=hid (World.ownsRow.kept ha.out O (X5n ha.out c.out));clear a3 O)
    go_roundg (D.length - (k+1))
    case measure=>omega
    case rel=>exact⟨k+1,by omega,by go_num,rfl,by rw[a.out];exact X0a T.out, .inr (by rw[a.out];exact X0w T.out f.out.size),by rw[a.out];exact o6.out,b6.out⟩
   ·obtain rfl:k=D.length:=by omega
    have a1:decide ((D.length:Int)<(D.length:Int))=false:=by simp
    rw[List.take_length,hP.out] at z c t;have t:=t.resolve_left (by omega);obtain⟨p6,c6,rfl⟩:=X0b z;have M:=y.out.trans (f.mono y.out.size);have F:=X02 i.out M;have c4:=X00 F 0 _ rfl;have f4:=X06 F 0;have a0:=hid (X7z (u:= .slice p6 P.1.length c6) F);have I:w.heap.size+1<w3.heap.size:=Nat.lt_of_lt_of_le (X1h i.out) y.out.size;have aa:=hid (X0w (X1d t ⟨w.heap.size+1,0,none⟩ (.slice p6 P.1.length c6) (X2S t I)) (Nat.le_trans (Nat.le_succ _) (Nat.le_of_lt I)));have a7:=hid (X0w (X1d c ⟨w.heap.size+1,0,none⟩ (.slice p6 P.1.length c6) (X2S c I)) (Nat.le_trans (Nat.le_succ _) (Nat.le_of_lt I)))
    have a6:=hid (B.out.trans (M.mono B.out.size));replace F:=hid F;clear z t c M f;go_wp2_with fail;have c9:=X00 a0.out 0 _ rfl;refine bodyPost_ret (v:= .tuple #[.agg #[.slice p6 P.1.length c6],_]) ?_ rfl ⟨_,_,rfl,aa.out,a7.out,a6.out.setCell (by simp) _⟩;simp [results,Tryz.results93,go_sem,c9]
 |
  false=>
  rw[if_neg (by simp)];rw[hS] at n;replace n:=hid n;obtain⟨P,hP⟩: ∃P,Nor.runI [] D=P:=⟨_,rfl⟩;have s:=Nor.Xhp [];simp only[List.length_nil,Nat.zero_add] at s;rw[hP];replace hP:=hid hP;replace s:=hid s;clear hS;go_enter Tryz.func93,Tryz.ntmps93;go_upto_region 1 with(fail);rw[hW.out];have b0:=X00 A.out 0 _ rfl;go_wp2_with fail;refine n.out.mono ?_;rintro e w2 ⟨rfl,C⟩;have R:=X02 A.out C;have c2:=X00 R 0 _ rfl;have f2:=X06 R 0;have ad:=X7z (u:= .slice none 0 0) R;have d2:=X00 ad 0 _ rfl;have a5:=hid (Xu4 (j:=w.heap.size) (u:= .slice none 0 0) (X02 i.out C) (by omega))
  have ab:=B.out.trans (C.mono B.out.size);have ac:=hid (ab.setCell (p:=⟨w.heap.size,0,none⟩) (Nat.le_refl _) (.slice none 0 0));clear b0 R ad ab C;go_upto_region 5 with(fail);generalize am:w2.setCell ⟨w.heap.size,0,none⟩ (.slice none 0 0)=wq at *
  clear i B A S am;have i:=a5;have B:=ac;clear a5 ac;go_wp2_with fail;refine(N.out _).mono ?_;rintro e w3 ⟨vD,rfl,H,y⟩;obtain⟨pD,cD,rfl⟩:=X0b H;have a9:=hid (X9J w3);replace y:=hid y;replace H:=hid H;clear d2;go_wp2_with fail;go_loopg [6,7,9] D.length (fun g vl vo vi wr=>∃k:Nat,k≤D.length∧vi= .int .i64 k∧g=D.length - k∧RI wr vl (Nor.runI [] (D.take k)).1∧(k=0∨OwnI w3.heap.size vl (Nor.runI [] (D.take k)).1 wr)∧OwnI w3.heap.size vo (Nor.runI [] (D.take k)).2 wr∧Below w3.heap.size w3 wr)
  case atStart=>exact⟨0,Nat.zero_le _,rfl,rfl,a9.out, .inl rfl,X0O _ _,Below.refl _ _⟩
  case round=>
   obtain⟨k,hk,rfl,rfl,z,t,c,f⟩:=hrel;by_cases hlt:k<D.length
   ·have a1:(k:Int)<(D.length:Int):=by omega
    obtain⟨b,off,rfl,hb,E⟩:=ri_at H.out (by omega);have hc:wr.cell? ⟨b,off+k,none⟩=some (.int .i64 D[k]):=(f.cell hb).trans (E k hlt);have a4:D.take (k+1)=D.take k++ [D[k]]:=by rw[List.take_succ_eq_append_getElem hlt]
    have a:=X81 [] (D.take k) D[k];rw[←a4] at a;have G:=s.out (D.take k);have h:=s.out (D.take (k+1));rw[a] at h;obtain⟨d,hd⟩: ∃d,D[k]=d:=⟨_,rfl⟩;rw[hd] at hc a h;obtain⟨m,hm⟩: ∃m,(Nor.runI [] (D.take k)).1=m:=⟨_,rfl⟩;obtain⟨o,ho⟩: ∃o,(Nor.runI [] (D.take k)).2=o:=⟨_,rfl⟩;rw[hm] at z a G h;rw[ho] at c a G h;simp only[List.length_take,List.length_append] at G h;have x:=XjR _ m d wr (by omega) z;obtain⟨q,hq⟩: ∃q,Nor.putI m d=q:=⟨_,rfl⟩;rw[hq] at x a h;obtain⟨q1,q2⟩:=q;have aj:o.length≤200000:=by omega
    have ak:q2.length≤200000:=by dsimp only at h;omega
    replace x:=hid x;replace a:=hid a;replace c:=hid c;replace f:=hid f;clear E a4 hd hm ho hq G h z t;go_wp2_with fail;refine x.out.mono ?_;rintro e w5 ⟨va,vb,rfl,ha,U,L⟩;have a2:=hid (X0x c.out L);have a8:=hid (X0Y U);have K:=hid (f.out.trans (L.mono f.out.size));replace ha:=hid ha;clear L U
    go_wp2_with (at_builtin;refine X0c rfl _ _ 24 rfl w3.heap.size 3 i0 (.int .i64 0) 8 Tryz.underlying24 hi ae af ag rfl _ _ _ rfl a2.out _ _ rfl a8.out (X0u _) (by simp only[List.length_map,List.length_append,List.length_take,List.length_drop,List.length_cons,List.length_nil,List.length_singleton];unfold maxLen;omega) (by simp only[List.length_map,List.length_append,List.length_take,List.length_drop,List.length_cons,List.length_nil,List.length_singleton];omega) K.out.size ?_;intro v6 w6 a3 O;have o6:=hid (X0i (l:=o++q2) a3 (by(try simp);try omega) (by(try simp);try omega));have b6:=hid (X0k K.out O K.out.size a2.out (Nat.le_refl _));have T:=hid (World.ownsRow.kept ha.out O (X5n ha.out c.out));clear a3 O)
    go_roundg (D.length - (k+1))
    case measure=>omega
    case rel=>exact⟨k+1,by omega,by go_num,rfl,by rw[a.out];exact X0a T.out, .inr (by rw[a.out];exact X0w T.out f.out.size),by rw[a.out];exact o6.out,b6.out⟩
   ·obtain rfl:k=D.length:=by omega
    have a1:decide ((D.length:Int)<(D.length:Int))=false:=by simp
    rw[List.take_length,hP.out] at z c t;have t:=t.resolve_left (by omega);obtain⟨p6,c6,rfl⟩:=X0b z;have M:=y.out.trans (f.mono y.out.size);have F:=X02 i.out M;have c4:=X00 F 0 _ rfl;have f4:=X06 F 0;have a0:=hid (X7z (u:= .slice p6 P.1.length c6) F);have I:w.heap.size+1<w3.heap.size:=Nat.lt_of_lt_of_le (X1h i.out) y.out.size;have aa:=hid (X0w (X1d t ⟨w.heap.size+1,0,none⟩ (.slice p6 P.1.length c6) (X2S t I)) (Nat.le_trans (Nat.le_succ _) (Nat.le_of_lt I)));have a7:=hid (X0w (X1d c ⟨w.heap.size+1,0,none⟩ (.slice p6 P.1.length c6) (X2S c I)) (Nat.le_trans (Nat.le_succ _) (Nat.le_of_lt I)))
    have a6:=hid (B.out.trans (M.mono B.out.size));replace F:=hid F;clear z t c M f;go_wp2_with fail;have c9:=X00 a0.out 0 _ rfl;refine bodyPost_ret (v:= .tuple #[.agg #[.slice p6 P.1.length c6],_]) ?_ rfl ⟨_,_,rfl,aa.out,a7.out,a6.out.setCell (by simp) _⟩;simp [results,Tryz.results93,go_sem,c9]
theorem XfN(v:Value)(l:List Int)(r:Int)(w:World)(hl:l.length≤100000)(hv:RI w v l):Calls Tryz.prog 93 #[.agg #[v], .int .i64 r] w (XCt (Nor.feedI l r) w):=(XpM v l r w hl hv).mono fun e w' ⟨va,vb,he,ha,hb,hw⟩=>⟨va,vb,he,ha,X0a hb,hw⟩
end Go.Proofs.YtkofnpkopbnocaaGreatDoor
