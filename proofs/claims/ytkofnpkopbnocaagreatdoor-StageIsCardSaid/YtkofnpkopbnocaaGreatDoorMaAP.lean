import Derived.Test.YtkofnpkopbnocaaGreatDoorMaBP
import Derived.Test.YtkofnpkopbnocaaGreatDoorG1
import Derived.Test.YtkofnpkopbnocaaGreatDoorShelf
import Derived.ArgAppend
import Derived.Laws.MakeOwn
import Derived.Test.YtkofnpkopbnocaaGreatDoorDcP
import Derived.Test.YtkofnpkopbnocaaGreatDoorNoQ
import Derived.Test.YtkofnpkopbnocaaGreatDoorSgP
import Derived.Test.YtkofnpkopbnocaaGreatDoorMaSk
set_option linter.unusedSimpArgs false
set_option linter.unusedVariables false
set_option maxRecDepth 100000
set_option maxHeartbeats 12800000
namespace Go.Proofs.YtkofnpkopbnocaaGreatDoor
open Go.RowKit Go.Lib
open Mch (MS)
theorem X7x(k:Int)(w:World):Calls Tryz.prog 52 #[.int .i64 k] w fun e w'=>e= .returned (.agg (bare9 (if 0≤k∧k≤4 then k else 0)))∧Below w.heap.size w w':=by
 have a:=X0g w (bare9 0) 46;have b:=hid (X04 w (.cells (bare9 0) 46));obtain⟨W,hW⟩: ∃W,w.alloc (.cells (bare9 0) 46)=W:=⟨_,rfl⟩;rw[hW] at a b;obtain⟨c0,c1,c2,c3,c4,c5,c6,c7,c8⟩:=held9 a;have f0:=X06 a 0;have f1:=X06 a 1;have f2:=X06 a 2;have f3:=X06 a 3;have f4:=X06 a 4;have f5:=X06 a 5;have f6:=X06 a 6;have f7:=X06 a 7;have f8:=X06 a 8;replace a:=hid a;replace hW:=hid hW;by_cases h:0≤k∧k≤4
 ·rw[if_pos h];obtain⟨h1,h2⟩:=h;have t1: ¬k<0:=by omega
  have t2: ¬4<k:=by omega
  go_enter Tryz.func52,Tryz.ntmps52;go_upto_region 1 with(fail);rw[hW.out];go_wp2_with fail;all_goals
   have n5:=X2g a.out (.int .i64 k) (.string ⟨#[]⟩) nilV nilV (.bool false) (.int .i64 0) (.bool false) (.bool false) nilV;unfold set9 at n5;obtain⟨d0,d1,d2,d3,d4,d5,d6,d7,d8⟩:=held9 n5;refine bodyPost_ret (v:= .agg (bare9 k)) ?_ rfl ⟨rfl,?_⟩
   ·simp [results,Tryz.results52,go_sem,d0,d1,d2,d3,d4,d5,d6,d7,d8]
   ·have:=X4w b.out (Nat.le_refl w.heap.size) (.int .i64 k) (.string ⟨#[]⟩) nilV nilV (.bool false) (.int .i64 0) (.bool false) (.bool false) nilV;unfold set9 at this;exact this
 ·rw[if_neg h];have t1:k<0∨(¬k<0∧4<k):=by omega
  rcases t1 with t1 | ⟨t1,t2⟩;all_goals
   go_enter Tryz.func52,Tryz.ntmps52;go_upto_region 1 with(fail);rw[hW.out];go_wp2_with fail;have n5:=X2g a.out (.int .i64 0) (.string ⟨#[]⟩) nilV nilV (.bool false) (.int .i64 0) (.bool false) (.bool false) nilV;unfold set9 at n5;obtain⟨d0,d1,d2,d3,d4,d5,d6,d7,d8⟩:=held9 n5;refine bodyPost_ret (v:= .agg (bare9 0)) ?_ rfl ⟨rfl,?_⟩
   ·simp [results,Tryz.results52,go_sem,d0,d1,d2,d3,d4,d5,d6,d7,d8]
   ·have:=X4w b.out (Nat.le_refl w.heap.size) (.int .i64 0) (.string ⟨#[]⟩) nilV nilV (.bool false) (.int .i64 0) (.bool false) (.bool false) nilV;unfold set9 at this;exact this
theorem Xjh:NewC15:=by
 intro k w _;refine(X7x k w).mono ?_;rintro e w' ⟨rfl,hb⟩;exact⟨_,rfl,⟨nilV,nilV,nilV,rfl, .inl ⟨rfl,rfl⟩, .inl ⟨rfl,rfl⟩, .inl ⟨rfl,rfl⟩⟩,hb⟩
theorem X3i(v:Value)(l:List Int)(x:Int)(w:World)(hl:l.length≤100000)(hv:RI w v l):Calls Tryz.prog 77 #[v, .int .i64 x] w fun e w'=>e= .returned (.bool (l.contains x))∧w'=w:=by
 rcases hv with⟨rfl,rfl⟩ | ⟨a,cap,rfl,d,hc⟩
 ·refine(Tryz.slices_Contains_int_empty none 0 x w).mono ?_;rintro e w' ⟨rfl,h⟩;exact⟨rfl,h⟩
 ·by_cases h0:l.length=0
  ·obtain rfl:l= []:=List.eq_nil_of_length_eq_zero h0;refine(Tryz.slices_Contains_int_empty (some a) cap x w).mono ?_;rintro e w' ⟨rfl,h⟩;exact⟨rfl,h⟩
  ·obtain⟨b,off,rfl,hb,c⟩:=hc (by omega);refine(Tryz.slices_Contains_int b off l.length cap l x w (Nat.le_refl _) (by omega) (fun j hj=>by rw[c j hj];simp [List.getD,hj])).mono ?_;rintro e w' ⟨rfl,h⟩;rw[List.take_length];exact⟨rfl,h⟩
theorem Xpp(b off n cap:Nat)(w:World)(hn:0<n)(hc:n≤cap):Calls Tryz.prog 148 #[.slice (some ⟨b,off,none⟩) n cap] w fun e w'=>e= .returned (.slice (some ⟨b,off,none⟩) n n)∧w=w':=by
 have h1:(n:Int)≤(cap:Int):=by omega
 have h2: ¬((n:Int)<0):=by omega
 have h3: ¬((cap:Int)<(n:Int)):=by omega
 have h4:(0:Int)≤(n:Int):=by omega
 have h5: ¬(n=0):=by omega
 go_enter Tryz.func148,Tryz.ntmps148;go_wp2_with fail;go_ret;exact⟨rfl,rfl⟩
theorem X9V(v:Value)(c:List Int)(w:World)(hl:c.length≤1000)(hv:RI w v c):Calls Tryz.prog 113 #[v] w (Makes (Mch.cutOf c) w):=by
 obtain⟨i0,hi,r,s,t⟩:=info_parts X2p;obtain⟨p,cap,rfl⟩:=X0b hv;by_cases hc:c= []
 ·subst hc;replace hv:=hid hv;rw[show Mch.cutOf []= [] from rfl];go_enter Tryz.func113,Tryz.ntmps113;go_wp2_with fail;go_ret;exact⟨_,rfl,X0O _ _,Below.refl _ _⟩
 ·rw[XAb c hc];have m:c.length≠0:=fun e=>hc (List.eq_nil_of_length_eq_zero e);have ht: ¬((c.length:Int)=0):=by omega
  have y:((c.length:Int) == 0)=false:=beq_eq_false_iff_ne.2 ht;obtain⟨b,off,rfl,hb,a⟩:=ri_at hv (by omega);have f:=hid (Xpp b off c.length cap w (by omega) (Xfw hv).2.1);have d:=hid (X04 w (.cells #[.int .i64 (-1)] 3));have q:RowKit.Hid (∀b',some (⟨b,off,none⟩:Addr)=some b'→∀ (j:Nat) u,(X3d c)[j]? =some u→(w.alloc (.cells #[.int .i64 (-1)] 3)).cell? (b'.add j)=some u):=by
   intro b' e j u hu;obtain rfl:=Option.some.inj e;have hj:j<c.length:=by
    rcases Nat.lt_or_ge j c.length with hj | hj
    ·exact hj
    ·rw[List.getElem?_eq_none (by simpa using hj)] at hu;cases hu
   have g:(⟨b,off,none⟩:Addr).add j=⟨b,off+j,none⟩:=by unfold Addr.add;split <;> simp_all
   rw[g,(d.out.cell (p:=⟨b,off+j,none⟩) hb),a j hj];simpa [hj] using hu
  have o:RowKit.Hid (∀ (j:Nat) u,([.int .i64 (-1)]:List Value)[j]? =some u→(w.alloc (.cells #[.int .i64 (-1)] 3)).cell? ((⟨w.heap.size,0,none⟩:Addr).add j)=some u):=by
   intro j u hu
   match j with
   |
    0=>
    obtain rfl:=Option.some.inj hu;simp [Addr.add]
   | j+1=>simp at hu
  have x:=hid hl;replace m:=hid m;replace hc:=hid hc;replace hv:=hid hv;clear a;go_enter Tryz.func113,Tryz.ntmps113;go_wp2_with fail;refine f.out.mono ?_;rintro e w1 ⟨rfl,rfl⟩
  go_wp2_with (at_builtin;refine wpList_append_grows _ rfl _ _ 24 rfl 3 i0 (.int .i64 0) 1 8 Tryz.underlying24 hi r s t rfl (by decide) (some ⟨b,off,none⟩) c.length c.length (X3d c) rfl (fun h=>by cases h) (by simp) q.out ⟨w.heap.size,0,none⟩ 1 1 [.int .i64 (-1)] rfl (by simp) o.out (by intro u hu;simp at hu;subst hu;rfl) (by omega) (by unfold maxLen;omega) (by omega) ?_;intro v5 w5 n i;have o5:=hid (X0w (X0i (l:=c++ [-1]) n (by simp) (by simp)) (show w.heap.size≤_ from d.out.size));have b5:=hid (d.out.grown i d.out.size (fun k hk=>by cases hk));clear n i);go_ret;exact⟨_,rfl,o5.out,b5.out⟩
theorem XlE(n:Nat)(hn:n≤1000000): ∃X:Array Value,X.size=n∧∀W:World,(Instr.makeSlice 24 (.int .i64 (n:Int)) (.int .i64 (n:Int))).run Tryz.prog W= .ok (.slice (some ⟨W.heap.size,0,none⟩) n n) (W.alloc (.cells X 3)):=by
 obtain⟨i0,hi,h⟩:=Option.map_eq_some_iff.1 X2p;simp only[Prod.mk.injEq] at h;refine⟨madeCells (Value.int .i64 0).cells (n *i0.size),by rw[size_madeCells,h.2.1];omega,fun W=>?_⟩;have hr:=run_make (P:=Tryz.prog) W 24 3 i0 (.int .i64 0) Tryz.underlying24 hi h.1 .i64 .i64 (n:Int) (n:Int) (by omega) (Int.le_refl _) (by rw[h.2.2];omega) (by omega);rw[Int.toNat_natCast] at hr;exact hr
def FillI(w:World)(b:Nat)(n k:Nat)(l:List Int):Prop:=∃cs:Array Value,Blk w b cs 3∧cs.size=n∧∀j (h:j<l.length),j<k→cs[j]? =some (.int .i64 l[j])
theorem Xxi{w:World}{b n k:Nat}{l:List Int}(h:FillI w b n k l)(hk:k<n):(∃u,w.cell? ⟨b,k,none⟩=some u)∧w.frozen? ⟨b,k,none⟩=false:=by
 obtain⟨cs,h1,h2,_⟩:=h;exact⟨⟨cs[k]'(by omega),X00 h1 k _ (Array.getElem?_eq_getElem (by omega))⟩,X06 h1 k⟩
theorem Xpq{w:World}{b n k:Nat}{l:List Int}(h:FillI w b n k l)(hn:n=l.length)(hk:k<l.length):FillI (w.setCell ⟨b,k,none⟩ (.int .i64 l[k])) b n (k+1) l:=by
 obtain⟨cs,h1,h2,h3⟩:=h;refine⟨_,X3a h1 k _,by simpa using h2,fun j hj a=>?_⟩;rw[Array.getElem?_setIfInBounds];by_cases e:k=j
 ·subst e;rw[if_pos rfl,if_pos (by omega)]
 ·rw[if_neg e];exact h3 j hj (by omega)
theorem Xtq{B:Nat}{w:World}{b n:Nat}{l:List Int}(h:FillI w b n n l)(hn:n=l.length)(hB:B≤b)(hm:n≤maxLen):OwnI B (.slice (some ⟨b,0,none⟩) n n) l w:=by
 subst hn;obtain⟨cs,h1,h2,h3⟩:=h;refine⟨by simp, .inr ⟨b,l.length,cs,rfl,hB,h1,Nat.le_refl _,hm,by omega,?_⟩⟩;apply List.ext_getElem?;intro j;rcases Nat.lt_or_ge j l.length with hj | hj
 ·have:=h3 j hj hj;rw[List.getElem?_take_of_lt (by omega),Array.getElem?_toList,this];simp [hj]
 ·rw[List.getElem?_eq_none (by simp;omega),List.getElem?_eq_none (by simp;omega)]
theorem XlF(v:Value)(l:List UInt8)(w:World)(hl:l.length≤100000)(hv:X0v w v l):Calls Tryz.prog 114 #[v] w (Makes (Mch.X0M l) w):=by
 obtain⟨p,cap,rfl⟩:=X0o hv;obtain⟨X,hX,z⟩:=XlE l.length (by omega);obtain⟨m,hm⟩: ∃m,Mch.X0M l=m:=⟨_,rfl⟩;have o:l.length=m.length:=by rw[←hm];unfold Mch.X0M;simp
 have r: ∀i (h:i<l.length) (h2:i<m.length),((l[i].toNat:Nat):Int)=m[i]:=fun i h h2=>by
  subst hm;simp [Mch.X0M]
 rw[hm];replace hv:=hid hv;replace hX:=hid hX;replace r:=hid r;replace o:=hid o;clear hm;have f:=hid (X04 w (.cells X 3));have e:=hid (show FillI (w.alloc (.cells X 3)) w.heap.size l.length 0 m from⟨X,X0g w _ _,hX.out,fun j h1 h2=>by omega⟩);go_enter Tryz.func114,Tryz.ntmps114;go_wp2_with fail;go_loopg [4,5,11] l.length (fun g v4 v5 vi wr=>∃k:Nat,k≤l.length∧vi= .int .i64 k∧g=l.length - k∧FillI wr w.heap.size l.length k m∧Below w.heap.size w wr)
 case atStart=>exact⟨0,Nat.zero_le _,rfl,rfl,e.out,f.out⟩
 case round=>
  obtain⟨k,hk,rfl,rfl,a,c⟩:=hrel;clear e f z;by_cases hlt:k<l.length
  ·have s:(k:Int)<(l.length:Int):=by omega
   obtain⟨b,off,rfl,hb,n⟩:=X1B hv.out (by omega);have hc:wr.cell? ⟨b,off+k,none⟩=some (.int .u8 l[k].toNat):=(c.cell hb).trans (n k hlt);have q:k<m.length:=by have:=o.out;omega
   have he:=r.out k hlt q;obtain⟨x,hx⟩: ∃x,l[k]=x:=⟨_,rfl⟩;rw[hx] at hc he;have A:=x.toNat_lt;obtain⟨⟨u,hu⟩,hz⟩:=Xxi a hlt;have d:=Xpq a o.out q;rw[←he] at d;have y:=hid (c.setCell (p:=⟨w.heap.size,k,none⟩) (Nat.le_refl _) (.int .i64 (x.toNat:Int)));replace d:=hid d;replace c:=hid c;replace a:=hid a;clear n hx he;replace q:=hid q;go_wp2_with fail;go_roundg (l.length - (k+1))
   case measure=>omega
   case rel=>exact⟨k+1,by omega,by go_num,rfl,d.out,y.out⟩
  ·obtain rfl:k=l.length:=by omega
   have s:decide ((l.length:Int)<(l.length:Int))=false:=by simp
   have t:=hid (Xtq a o.out (Nat.le_refl w.heap.size) (by unfold maxLen;omega));replace c:=hid c;clear a;go_wp2_with fail;go_ret;exact⟨_,rfl,t.out,c.out⟩
theorem X5k{s:Clu.CS}(h:Sgm.saneB [] s=true):s.on=false:=by
 unfold Sgm.saneB at h;simp at h;rcases h with⟨h1,h2⟩;simpa using h2
theorem X3j(c:List Int):(c.all fun x=>decide (x≠ -1))= !(c.contains (-1)):=by
 induction c with
 | nil=>rfl
 |
  cons x t ih=>
  rw[List.all_cons,List.contains_cons,ih];by_cases h:x= -1
  ·subst h;simp
  ·have h2:((-1:Int) == x)=false:=beq_eq_false_iff_ne.2 (fun e=>h e.symm);simp [h,h2]
theorem Xtr(v:Value)(m:MS)(w:World)(hk:m.kind=0)(hT:Tabs w)(hs:Mch.Small m)(hv:RM w v m):Calls Tryz.prog 46 #[v] w fun e w'=>e= .returned (.bool (Mch.saneM m))∧Below w.heap.size w w':=by
 have G:=hv;obtain⟨vn,vg,vc,rfl,l,k,j⟩:=hv;obtain⟨pn,cn,rfl⟩:=X0b l;obtain⟨pg,cg,rfl⟩:=X0b k;obtain⟨pc,cc,rfl⟩:=X0b j;obtain⟨D,F,E,C⟩:=hs;obtain⟨kind,d,n,g,⟨on,kd,pi,od⟩,c⟩:=m;unfold mchV strV;dsimp only at l k j D F E C hk ⊢;obtain rfl:=hk;have hA:=fun W' z=>Tx.X1s ⟨d.toArray⟩ W' z;rw[Dec.X5C] at hA;obtain⟨S,hS⟩: ∃S:ByteArray,(⟨d.toArray⟩:ByteArray)=S:=⟨_,rfl⟩;have t:d= []→S=⟨#[]⟩:=by rintro rfl;exact hS.symm
 have hSn: ¬d= []→¬S.size=0:=fun h e=>h (by rw[←hS] at e;exact List.length_eq_zero_iff.1 (by simpa [ByteArray.size] using e));rw[hS] at hA ⊢;have hb:=X04 w (.cells #[.int .i64 0, .string S, .slice pn n.length cn, .slice pg g.length cg, .bool on, .int .i64 kd, .bool pi, .bool od, .slice pc c.length cc] 46);have hx:=hid (X0g w #[.int .i64 0, .string S, .slice pn n.length cn, .slice pg g.length cg, .bool on, .int .i64 kd, .bool pi, .bool od, .slice pc c.length cc] 46)
 obtain⟨W,hW⟩: ∃W,w.alloc (.cells #[.int .i64 0, .string S, .slice pn n.length cn, .slice pg g.length cg, .bool on, .int .i64 kd, .bool pi, .bool od, .slice pc c.length cc] 46)=W:=⟨_,rfl⟩;rw[hW] at hb hx;have y:=hid (X03 l hb);have x:=hid (X03 k hb);have u:=hid (X03 j hb);have B:=hid (XyL hT hb);have f:=fun W' (h:RI W' (.slice pn n.length cn) n)=>Xe1 _ n W' (by omega) h;have a:=fun W' (h:RI W' (.slice pg g.length cg) g)=>XfX _ g ⟨on,kd,pi,od⟩ W' (by omega) h;have i:=fun W' (h:RI W' (.slice pc c.length cc) c)=>X3i _ c (-1) W' (by omega) h;unfold sgV at a;dsimp only at a
 obtain⟨R,hR⟩: ∃R,Mch.saneM ⟨0,d,n,g,⟨on,kd,pi,od⟩,c⟩=R:=⟨_,rfl⟩;rw[hR];unfold Mch.saneM at hR;dsimp only at hR;rw[X3j] at hR;obtain⟨A,r⟩: ∃A,Dec.saneL d=A:=⟨_,rfl⟩;obtain⟨Bn,s⟩: ∃Bn,Nor.saneB n=Bn:=⟨_,rfl⟩;obtain⟨Cg,p⟩: ∃Cg,Sgm.saneB g ⟨on,kd,pi,od⟩=Cg:=⟨_,rfl⟩;obtain⟨Ct,b⟩: ∃Ct,c.contains (-1)=Ct:=⟨_,rfl⟩;have q:Cg=true→g= []→on=false:=by rintro rfl rfl;exact X5k p
 rw[r] at hA hR;rw[s] at f hR;rw[p] at a hR;rw[b] at i hR;have o:c= []→Ct=false:=by rintro rfl;rw[←b];rfl
 replace hA:=hid hA;replace f:=hid f;replace a:=hid a;replace i:=hid i;replace hR:=hid hR;replace hb:=hid hb;replace hW:=hid hW;replace q:=hid q;replace t:=hid t;replace hSn:=hid hSn;replace o:=hid o;clear l k j r s p b hS hT G;go_enter Tryz.func46,Tryz.ntmps46;go_upto_region 1 with(fail);rw[hW.out];obtain⟨c0,c1,c2,c3,c4,c5,c6,c7,c8⟩:=held9 hx.out;go_upto_region 2 with(fail);refine wp_region_lit ?_;simp only[List.append];go_wp2_with fail;refine(hA.out _ B.out).mono ?_;rintro e w1 ⟨rfl,q1⟩;have x1:=hid (X02 hx.out q1);have b1:=hid (X05 hb.out q1);have n1:=hid (X03 y.out q1)
 have g1:=hid (X03 x.out q1);have v1:=hid (X03 u.out q1);clear c0 c1 c2 c3 c4 c5 c6 c7 c8 q1;obtain⟨c0,c1,c2,c3,c4,c5,c6,c7,c8⟩:=held9 x1.out;rcases A with _ | _
 ·skip;go_wp2_with fail;go_ret;exact⟨X0p (by rw[←hR.out];simp),b1.out⟩
 ·skip;go_wp2_with fail;refine(f.out _ n1.out).mono ?_;rintro e w2 ⟨rfl,q2⟩;have x2:=hid (X02 x1.out q2);have b2:=hid (X05 b1.out q2);have g2:=hid (X03 g1.out q2);have v2:=hid (X03 v1.out q2);clear c0 c1 c2 c3 c4 c5 c6 c7 c8 q2;obtain⟨c0,c1,c2,c3,c4,c5,c6,c7,c8⟩:=held9 x2.out;rcases Bn with _ | _
  ·skip;go_wp2_with fail;go_ret;exact⟨X0p (by rw[←hR.out];simp),b2.out⟩
  ·skip;by_cases hn:n= []
   ·skip;subst hn;go_wp2_with fail;refine(a.out _ g2.out).mono ?_;rintro e w3 ⟨rfl,q3⟩;have x3:=hid (X02 x2.out q3);have b3:=hid (X05 b2.out q3);have v3:=hid (X03 v2.out q3);clear c0 c1 c2 c3 c4 c5 c6 c7 c8 q3;obtain⟨c0,c1,c2,c3,c4,c5,c6,c7,c8⟩:=held9 x3.out;rcases Cg with _ | _
    ·skip;go_wp2_with fail;go_ret;exact⟨X0p (by rw[←hR.out];simp),b3.out⟩
    ·skip;by_cases hg:g= []
     ·skip;obtain rfl:=q.out rfl hg;subst hg;by_cases h32:c.length≤32
      ·skip;have H:(c.length:Int)≤32:=by omega
       by_cases hc:c= []
       ·skip;subst hc;go_wp2_with fail;refine(i.out _ v3.out).mono ?_;rintro e w4 ⟨rfl,rfl⟩;go_wp2_with fail;go_ret;exact⟨X0p (by rw[←hR.out];simp),b3.out⟩
       ·skip;have tc: ¬((c.length:Int)=0):=fun e=>hc (List.eq_nil_of_length_eq_zero (by omega));have uc:((c.length:Int) == 0)=false:=beq_eq_false_iff_ne.2 tc;clear tc;go_wp2_with fail;go_ret;exact⟨X0p (by rw[←hR.out];simp [hc]),b3.out⟩
      ·skip;have H: ¬(c.length:Int)≤32:=by omega
       go_wp2_with fail;go_ret;exact⟨X0p (by rw[←hR.out];simp [h32]),b3.out⟩
     ·skip;have tg: ¬((g.length:Int)=0):=fun e=>hg (List.eq_nil_of_length_eq_zero (by omega));have ug:((g.length:Int) == 0)=false:=beq_eq_false_iff_ne.2 tg;clear tg;go_wp2_with fail;go_ret;exact⟨X0p (by rw[←hR.out];simp [hg]),b3.out⟩
   ·skip;have tn: ¬((n.length:Int)=0):=fun e=>hn (List.eq_nil_of_length_eq_zero (by omega));have un:((n.length:Int) == 0)=false:=beq_eq_false_iff_ne.2 tn;clear tn;go_wp2_with fail;go_ret;exact⟨X0p (by rw[←hR.out];simp [hn]),b2.out⟩
theorem Xts(v:Value)(m:MS)(w:World)(hk:m.kind=1)(hT:Tabs w)(hs:Mch.Small m)(hv:RM w v m):Calls Tryz.prog 46 #[v] w fun e w'=>e= .returned (.bool (Mch.saneM m))∧Below w.heap.size w w':=by
 have H:=hv;obtain⟨vn,vg,vc,rfl,l,k,j⟩:=hv;obtain⟨pn,cn,rfl⟩:=X0b l;obtain⟨pg,cg,rfl⟩:=X0b k;obtain⟨pc,cc,rfl⟩:=X0b j;obtain⟨E,G,F,D⟩:=hs;obtain⟨kind,d,n,g,⟨on,kd,pi,od⟩,c⟩:=m;unfold mchV strV;dsimp only at l k j E G F D hk ⊢;obtain rfl:=hk;have hA:=fun W' B=>Tx.X1s ⟨d.toArray⟩ W' B;rw[Dec.X5C] at hA;obtain⟨S,hS⟩: ∃S:ByteArray,(⟨d.toArray⟩:ByteArray)=S:=⟨_,rfl⟩;have q:d= []→S=⟨#[]⟩:=by rintro rfl;exact hS.symm
 have hSn: ¬d= []→¬S.size=0:=fun h e=>h (by rw[←hS] at e;exact List.length_eq_zero_iff.1 (by simpa [ByteArray.size] using e));rw[hS] at hA ⊢;have hb:=X04 w (.cells #[.int .i64 1, .string S, .slice pn n.length cn, .slice pg g.length cg, .bool on, .int .i64 kd, .bool pi, .bool od, .slice pc c.length cc] 46);have hx:=hid (X0g w #[.int .i64 1, .string S, .slice pn n.length cn, .slice pg g.length cg, .bool on, .int .i64 kd, .bool pi, .bool od, .slice pc c.length cc] 46)
 obtain⟨W,hW⟩: ∃W,w.alloc (.cells #[.int .i64 1, .string S, .slice pn n.length cn, .slice pg g.length cg, .bool on, .int .i64 kd, .bool pi, .bool od, .slice pc c.length cc] 46)=W:=⟨_,rfl⟩;rw[hW] at hb hx;have y:=hid (X03 l hb);have x:=hid (X03 k hb);have u:=hid (X03 j hb);have C:=hid (XyL hT hb);have f:=fun W' (h:RI W' (.slice pn n.length cn) n)=>Xe1 _ n W' (by omega) h;have a:=fun W' (h:RI W' (.slice pg g.length cg) g)=>XfX _ g ⟨on,kd,pi,od⟩ W' (by omega) h;have i:=fun W' (h:RI W' (.slice pc c.length cc) c)=>X3i _ c (-1) W' (by omega) h;unfold sgV at a;dsimp only at a
 obtain⟨R,hR⟩: ∃R,Mch.saneM ⟨1,d,n,g,⟨on,kd,pi,od⟩,c⟩=R:=⟨_,rfl⟩;rw[hR];unfold Mch.saneM at hR;dsimp only at hR;rw[X3j] at hR;obtain⟨A,s⟩: ∃A,Dec.saneL d=A:=⟨_,rfl⟩;obtain⟨Bn,t⟩: ∃Bn,Nor.saneB n=Bn:=⟨_,rfl⟩;obtain⟨Cg,p⟩: ∃Cg,Sgm.saneB g ⟨on,kd,pi,od⟩=Cg:=⟨_,rfl⟩;obtain⟨Ct,b⟩: ∃Ct,c.contains (-1)=Ct:=⟨_,rfl⟩;have r:Cg=true→g= []→on=false:=by rintro rfl rfl;exact X5k p
 rw[s] at hA hR;rw[t] at f hR;rw[p] at a hR;rw[b] at i hR;have o:c= []→Ct=false:=by rintro rfl;rw[←b];rfl
 replace hA:=hid hA;replace f:=hid f;replace a:=hid a;replace i:=hid i;replace hR:=hid hR;replace hb:=hid hb;replace hW:=hid hW;replace r:=hid r;replace q:=hid q;replace hSn:=hid hSn;replace o:=hid o;clear l k j s t p b hS hT H;go_enter Tryz.func46,Tryz.ntmps46;go_upto_region 1 with(fail);rw[hW.out];obtain⟨c0,c1,c2,c3,c4,c5,c6,c7,c8⟩:=held9 hx.out;go_upto_region 2 with(fail);refine wp_region_lit ?_;simp only[List.append];go_wp2_with fail;refine(hA.out _ C.out).mono ?_;rintro e w1 ⟨rfl,q1⟩;have x1:=hid (X02 hx.out q1);have b1:=hid (X05 hb.out q1);have n1:=hid (X03 y.out q1)
 have g1:=hid (X03 x.out q1);have v1:=hid (X03 u.out q1);clear c0 c1 c2 c3 c4 c5 c6 c7 c8 q1;obtain⟨c0,c1,c2,c3,c4,c5,c6,c7,c8⟩:=held9 x1.out;rcases A with _ | _
 ·skip;go_wp2_with fail;go_ret;exact⟨X0p (by rw[←hR.out];simp),b1.out⟩
 ·skip;by_cases hd:d= []
  ·skip;have z:=q.out hd;subst z;subst hd;clear hSn;go_wp2_with fail;refine(f.out _ n1.out).mono ?_;rintro e w2 ⟨rfl,q2⟩;have x2:=hid (X02 x1.out q2);have b2:=hid (X05 b1.out q2);have g2:=hid (X03 g1.out q2);have v2:=hid (X03 v1.out q2);clear c0 c1 c2 c3 c4 c5 c6 c7 c8 q2;obtain⟨c0,c1,c2,c3,c4,c5,c6,c7,c8⟩:=held9 x2.out;rcases Bn with _ | _
   ·skip;go_wp2_with fail;go_ret;exact⟨X0p (by rw[←hR.out];simp),b2.out⟩
   ·skip;go_wp2_with fail;refine(a.out _ g2.out).mono ?_;rintro e w3 ⟨rfl,q3⟩;have x3:=hid (X02 x2.out q3);have b3:=hid (X05 b2.out q3);have v3:=hid (X03 v2.out q3);clear c0 c1 c2 c3 c4 c5 c6 c7 c8 q3;obtain⟨c0,c1,c2,c3,c4,c5,c6,c7,c8⟩:=held9 x3.out;rcases Cg with _ | _
    ·skip;go_wp2_with fail;go_ret;exact⟨X0p (by rw[←hR.out];simp),b3.out⟩
    ·skip;by_cases hg:g= []
     ·skip;obtain rfl:=r.out rfl hg;subst hg;by_cases h32:c.length≤32
      ·skip;have I:(c.length:Int)≤32:=by omega
       by_cases hc:c= []
       ·skip;subst hc;go_wp2_with fail;refine(i.out _ v3.out).mono ?_;rintro e w4 ⟨rfl,rfl⟩;go_wp2_with fail;go_ret;exact⟨X0p (by rw[←hR.out];simp),b3.out⟩
       ·skip;have tc: ¬((c.length:Int)=0):=fun e=>hc (List.eq_nil_of_length_eq_zero (by omega));have uc:((c.length:Int) == 0)=false:=beq_eq_false_iff_ne.2 tc;clear tc;go_wp2_with fail;go_ret;exact⟨X0p (by rw[←hR.out];simp [hc]),b3.out⟩
      ·skip;have I: ¬(c.length:Int)≤32:=by omega
       go_wp2_with fail;go_ret;exact⟨X0p (by rw[←hR.out];simp [h32]),b3.out⟩
     ·skip;have tg: ¬((g.length:Int)=0):=fun e=>hg (List.eq_nil_of_length_eq_zero (by omega));have ug:((g.length:Int) == 0)=false:=beq_eq_false_iff_ne.2 tg;clear tg;go_wp2_with fail;go_ret;exact⟨X0p (by rw[←hR.out];simp [hg]),b3.out⟩
  ·skip;have uS:((S.size:Int) == 0)=false:=beq_eq_false_iff_ne.2 (by have:=hSn.out hd;omega);go_wp2_with fail;go_ret;exact⟨X0p (by rw[←hR.out];simp [hd]),b1.out⟩
theorem Xtt(v:Value)(m:MS)(w:World)(hk:m.kind=2)(hT:Tabs w)(hs:Mch.Small m)(hv:RM w v m):Calls Tryz.prog 46 #[v] w fun e w'=>e= .returned (.bool (Mch.saneM m))∧Below w.heap.size w w':=by
 have H:=hv;obtain⟨vn,vg,vc,rfl,l,k,j⟩:=hv;obtain⟨pn,cn,rfl⟩:=X0b l;obtain⟨pg,cg,rfl⟩:=X0b k;obtain⟨pc,cc,rfl⟩:=X0b j;obtain⟨E,G,F,D⟩:=hs;obtain⟨kind,d,n,g,⟨on,kd,pi,od⟩,c⟩:=m;unfold mchV strV;dsimp only at l k j E G F D hk ⊢;obtain rfl:=hk;have hA:=fun W' B=>Tx.X1s ⟨d.toArray⟩ W' B;rw[Dec.X5C] at hA;obtain⟨S,hS⟩: ∃S:ByteArray,(⟨d.toArray⟩:ByteArray)=S:=⟨_,rfl⟩;have q:d= []→S=⟨#[]⟩:=by rintro rfl;exact hS.symm
 have hSn: ¬d= []→¬S.size=0:=fun h e=>h (by rw[←hS] at e;exact List.length_eq_zero_iff.1 (by simpa [ByteArray.size] using e));rw[hS] at hA ⊢;have hb:=X04 w (.cells #[.int .i64 2, .string S, .slice pn n.length cn, .slice pg g.length cg, .bool on, .int .i64 kd, .bool pi, .bool od, .slice pc c.length cc] 46);have hx:=hid (X0g w #[.int .i64 2, .string S, .slice pn n.length cn, .slice pg g.length cg, .bool on, .int .i64 kd, .bool pi, .bool od, .slice pc c.length cc] 46)
 obtain⟨W,hW⟩: ∃W,w.alloc (.cells #[.int .i64 2, .string S, .slice pn n.length cn, .slice pg g.length cg, .bool on, .int .i64 kd, .bool pi, .bool od, .slice pc c.length cc] 46)=W:=⟨_,rfl⟩;rw[hW] at hb hx;have y:=hid (X03 l hb);have x:=hid (X03 k hb);have u:=hid (X03 j hb);have C:=hid (XyL hT hb);have f:=fun W' (h:RI W' (.slice pn n.length cn) n)=>Xe1 _ n W' (by omega) h;have a:=fun W' (h:RI W' (.slice pg g.length cg) g)=>XfX _ g ⟨on,kd,pi,od⟩ W' (by omega) h;have i:=fun W' (h:RI W' (.slice pc c.length cc) c)=>X3i _ c (-1) W' (by omega) h;unfold sgV at a;dsimp only at a
 obtain⟨R,hR⟩: ∃R,Mch.saneM ⟨2,d,n,g,⟨on,kd,pi,od⟩,c⟩=R:=⟨_,rfl⟩;rw[hR];unfold Mch.saneM at hR;dsimp only at hR;rw[X3j] at hR;obtain⟨A,s⟩: ∃A,Dec.saneL d=A:=⟨_,rfl⟩;obtain⟨Bn,t⟩: ∃Bn,Nor.saneB n=Bn:=⟨_,rfl⟩;obtain⟨Cg,p⟩: ∃Cg,Sgm.saneB g ⟨on,kd,pi,od⟩=Cg:=⟨_,rfl⟩;obtain⟨Ct,b⟩: ∃Ct,c.contains (-1)=Ct:=⟨_,rfl⟩;have r:Cg=true→g= []→on=false:=by rintro rfl rfl;exact X5k p
 rw[s] at hA hR;rw[t] at f hR;rw[p] at a hR;rw[b] at i hR;have o:c= []→Ct=false:=by rintro rfl;rw[←b];rfl
 replace hA:=hid hA;replace f:=hid f;replace a:=hid a;replace i:=hid i;replace hR:=hid hR;replace hb:=hid hb;replace hW:=hid hW;replace r:=hid r;replace q:=hid q;replace hSn:=hid hSn;replace o:=hid o;clear l k j s t p b hS hT H;go_enter Tryz.func46,Tryz.ntmps46;go_upto_region 1 with(fail);rw[hW.out];obtain⟨c0,c1,c2,c3,c4,c5,c6,c7,c8⟩:=held9 hx.out;go_upto_region 2 with(fail);refine wp_region_lit ?_;simp only[List.append];go_wp2_with fail;refine(hA.out _ C.out).mono ?_;rintro e w1 ⟨rfl,q1⟩;have x1:=hid (X02 hx.out q1);have b1:=hid (X05 hb.out q1);have n1:=hid (X03 y.out q1)
 have g1:=hid (X03 x.out q1);have v1:=hid (X03 u.out q1);clear c0 c1 c2 c3 c4 c5 c6 c7 c8 q1;obtain⟨c0,c1,c2,c3,c4,c5,c6,c7,c8⟩:=held9 x1.out;rcases A with _ | _
 ·skip;go_wp2_with fail;go_ret;exact⟨X0p (by rw[←hR.out];simp),b1.out⟩
 ·skip;by_cases hd:d= []
  ·skip;have z:=q.out hd;subst z;subst hd;clear hSn;go_wp2_with fail;refine(f.out _ n1.out).mono ?_;rintro e w2 ⟨rfl,q2⟩;have x2:=hid (X02 x1.out q2);have b2:=hid (X05 b1.out q2);have g2:=hid (X03 g1.out q2);have v2:=hid (X03 v1.out q2);clear c0 c1 c2 c3 c4 c5 c6 c7 c8 q2;obtain⟨c0,c1,c2,c3,c4,c5,c6,c7,c8⟩:=held9 x2.out;rcases Bn with _ | _
   ·skip;go_wp2_with fail;go_ret;exact⟨X0p (by rw[←hR.out];simp),b2.out⟩
   ·skip;go_wp2_with fail;refine(a.out _ g2.out).mono ?_;rintro e w3 ⟨rfl,q3⟩;have x3:=hid (X02 x2.out q3);have b3:=hid (X05 b2.out q3);have v3:=hid (X03 v2.out q3);clear c0 c1 c2 c3 c4 c5 c6 c7 c8 q3;obtain⟨c0,c1,c2,c3,c4,c5,c6,c7,c8⟩:=held9 x3.out;rcases Cg with _ | _
    ·skip;go_wp2_with fail;go_ret;exact⟨X0p (by rw[←hR.out];simp),b3.out⟩
    ·skip;by_cases hg:g= []
     ·skip;obtain rfl:=r.out rfl hg;subst hg;by_cases h32:c.length≤32
      ·skip;have I:(c.length:Int)≤32:=by omega
       by_cases hc:c= []
       ·skip;subst hc;go_wp2_with fail;refine(i.out _ v3.out).mono ?_;rintro e w4 ⟨rfl,rfl⟩;go_wp2_with fail;go_ret;exact⟨X0p (by rw[←hR.out];simp),b3.out⟩
       ·skip;have tc: ¬((c.length:Int)=0):=fun e=>hc (List.eq_nil_of_length_eq_zero (by omega));have uc:((c.length:Int) == 0)=false:=beq_eq_false_iff_ne.2 tc;clear tc;go_wp2_with fail;go_ret;exact⟨X0p (by rw[←hR.out];simp [hc]),b3.out⟩
      ·skip;have I: ¬(c.length:Int)≤32:=by omega
       go_wp2_with fail;go_ret;exact⟨X0p (by rw[←hR.out];simp [h32]),b3.out⟩
     ·skip;have tg: ¬((g.length:Int)=0):=fun e=>hg (List.eq_nil_of_length_eq_zero (by omega));have ug:((g.length:Int) == 0)=false:=beq_eq_false_iff_ne.2 tg;clear tg;go_wp2_with fail;go_ret;exact⟨X0p (by rw[←hR.out];simp [hg]),b3.out⟩
  ·skip;have uS:((S.size:Int) == 0)=false:=beq_eq_false_iff_ne.2 (by have:=hSn.out hd;omega);go_wp2_with fail;go_ret;exact⟨X0p (by rw[←hR.out];simp [hd]),b1.out⟩
theorem Xtu(v:Value)(m:MS)(w:World)(hk:m.kind=3)(hT:Tabs w)(hs:Mch.Small m)(hv:RM w v m):Calls Tryz.prog 46 #[v] w fun e w'=>e= .returned (.bool (Mch.saneM m))∧Below w.heap.size w w':=by
 have H:=hv;obtain⟨vn,vg,vc,rfl,l,k,j⟩:=hv;obtain⟨pn,cn,rfl⟩:=X0b l;obtain⟨pg,cg,rfl⟩:=X0b k;obtain⟨pc,cc,rfl⟩:=X0b j;obtain⟨E,G,F,D⟩:=hs;obtain⟨kind,d,n,g,⟨on,kd,pi,od⟩,c⟩:=m;unfold mchV strV;dsimp only at l k j E G F D hk ⊢;obtain rfl:=hk;have hA:=fun W' B=>Tx.X1s ⟨d.toArray⟩ W' B;rw[Dec.X5C] at hA;obtain⟨S,hS⟩: ∃S:ByteArray,(⟨d.toArray⟩:ByteArray)=S:=⟨_,rfl⟩;have q:d= []→S=⟨#[]⟩:=by rintro rfl;exact hS.symm
 have hSn: ¬d= []→¬S.size=0:=fun h e=>h (by rw[←hS] at e;exact List.length_eq_zero_iff.1 (by simpa [ByteArray.size] using e));rw[hS] at hA ⊢;have hb:=X04 w (.cells #[.int .i64 3, .string S, .slice pn n.length cn, .slice pg g.length cg, .bool on, .int .i64 kd, .bool pi, .bool od, .slice pc c.length cc] 46);have hx:=hid (X0g w #[.int .i64 3, .string S, .slice pn n.length cn, .slice pg g.length cg, .bool on, .int .i64 kd, .bool pi, .bool od, .slice pc c.length cc] 46)
 obtain⟨W,hW⟩: ∃W,w.alloc (.cells #[.int .i64 3, .string S, .slice pn n.length cn, .slice pg g.length cg, .bool on, .int .i64 kd, .bool pi, .bool od, .slice pc c.length cc] 46)=W:=⟨_,rfl⟩;rw[hW] at hb hx;have y:=hid (X03 l hb);have x:=hid (X03 k hb);have u:=hid (X03 j hb);have C:=hid (XyL hT hb);have f:=fun W' (h:RI W' (.slice pn n.length cn) n)=>Xe1 _ n W' (by omega) h;have a:=fun W' (h:RI W' (.slice pg g.length cg) g)=>XfX _ g ⟨on,kd,pi,od⟩ W' (by omega) h;have i:=fun W' (h:RI W' (.slice pc c.length cc) c)=>X3i _ c (-1) W' (by omega) h;unfold sgV at a;dsimp only at a
 obtain⟨R,hR⟩: ∃R,Mch.saneM ⟨3,d,n,g,⟨on,kd,pi,od⟩,c⟩=R:=⟨_,rfl⟩;rw[hR];unfold Mch.saneM at hR;dsimp only at hR;rw[X3j] at hR;obtain⟨A,r⟩: ∃A,Dec.saneL d=A:=⟨_,rfl⟩;obtain⟨Bn,s⟩: ∃Bn,Nor.saneB n=Bn:=⟨_,rfl⟩;obtain⟨Cg,p⟩: ∃Cg,Sgm.saneB g ⟨on,kd,pi,od⟩=Cg:=⟨_,rfl⟩;obtain⟨Ct,b⟩: ∃Ct,c.contains (-1)=Ct:=⟨_,rfl⟩;have t:Cg=true→g= []→on=false:=by rintro rfl rfl;exact X5k p
 rw[r] at hA hR;rw[s] at f hR;rw[p] at a hR;rw[b] at i hR;have o:c= []→Ct=false:=by rintro rfl;rw[←b];rfl
 replace hA:=hid hA;replace f:=hid f;replace a:=hid a;replace i:=hid i;replace hR:=hid hR;replace hb:=hid hb;replace hW:=hid hW;replace t:=hid t;replace q:=hid q;replace hSn:=hid hSn;replace o:=hid o;clear l k j r s p b hS hT H;go_enter Tryz.func46,Tryz.ntmps46;go_upto_region 1 with(fail);rw[hW.out];obtain⟨c0,c1,c2,c3,c4,c5,c6,c7,c8⟩:=held9 hx.out;go_upto_region 2 with(fail);refine wp_region_lit ?_;simp only[List.append];go_wp2_with fail;refine(hA.out _ C.out).mono ?_;rintro e w1 ⟨rfl,q1⟩;have x1:=hid (X02 hx.out q1);have b1:=hid (X05 hb.out q1);have n1:=hid (X03 y.out q1)
 have g1:=hid (X03 x.out q1);have v1:=hid (X03 u.out q1);clear c0 c1 c2 c3 c4 c5 c6 c7 c8 q1;obtain⟨c0,c1,c2,c3,c4,c5,c6,c7,c8⟩:=held9 x1.out;rcases A with _ | _
 ·skip;go_wp2_with fail;go_ret;exact⟨X0p (by rw[←hR.out];simp),b1.out⟩
 ·skip;by_cases hd:d= []
  ·skip;have z:=q.out hd;subst z;subst hd;clear hSn;go_wp2_with fail;refine(f.out _ n1.out).mono ?_;rintro e w2 ⟨rfl,q2⟩;have x2:=hid (X02 x1.out q2);have b2:=hid (X05 b1.out q2);have g2:=hid (X03 g1.out q2);have v2:=hid (X03 v1.out q2);clear c0 c1 c2 c3 c4 c5 c6 c7 c8 q2;obtain⟨c0,c1,c2,c3,c4,c5,c6,c7,c8⟩:=held9 x2.out;rcases Bn with _ | _
   ·skip;go_wp2_with fail;go_ret;exact⟨X0p (by rw[←hR.out];simp),b2.out⟩
   ·skip;by_cases hn:n= []
    ·skip;subst hn;go_wp2_with fail;refine(a.out _ g2.out).mono ?_;rintro e w3 ⟨rfl,q3⟩;have x3:=hid (X02 x2.out q3);have b3:=hid (X05 b2.out q3);have v3:=hid (X03 v2.out q3);clear c0 c1 c2 c3 c4 c5 c6 c7 c8 q3;obtain⟨c0,c1,c2,c3,c4,c5,c6,c7,c8⟩:=held9 x3.out;rcases Cg with _ | _
     ·skip;go_wp2_with fail;go_ret;exact⟨X0p (by rw[←hR.out];simp),b3.out⟩
     ·skip;by_cases h32:c.length≤32
      ·skip;have I:(c.length:Int)≤32:=by omega
       by_cases hc:c= []
       ·skip;subst hc;go_wp2_with fail;refine(i.out _ v3.out).mono ?_;rintro e w4 ⟨rfl,rfl⟩;go_wp2_with fail;go_ret;exact⟨X0p (by rw[←hR.out];simp),b3.out⟩
       ·skip;have tc: ¬((c.length:Int)=0):=fun e=>hc (List.eq_nil_of_length_eq_zero (by omega));have uc:((c.length:Int) == 0)=false:=beq_eq_false_iff_ne.2 tc;clear tc;go_wp2_with fail;go_ret;exact⟨X0p (by rw[←hR.out];simp [hc]),b3.out⟩
      ·skip;have I: ¬(c.length:Int)≤32:=by omega
       go_wp2_with fail;go_ret;exact⟨X0p (by rw[←hR.out];simp [h32]),b3.out⟩
    ·skip;have tn: ¬((n.length:Int)=0):=fun e=>hn (List.eq_nil_of_length_eq_zero (by omega));have un:((n.length:Int) == 0)=false:=beq_eq_false_iff_ne.2 tn;clear tn;go_wp2_with fail;go_ret;exact⟨X0p (by rw[←hR.out];simp [hn]),b2.out⟩
  ·skip;have uS:((S.size:Int) == 0)=false:=beq_eq_false_iff_ne.2 (by have:=hSn.out hd;omega);go_wp2_with fail;go_ret;exact⟨X0p (by rw[←hR.out];simp [hd]),b1.out⟩
theorem Xtv(v:Value)(m:MS)(w:World)(hk:m.kind=4)(hT:Tabs w)(hs:Mch.Small m)(hv:RM w v m):Calls Tryz.prog 46 #[v] w fun e w'=>e= .returned (.bool (Mch.saneM m))∧Below w.heap.size w w':=by
 have H:=hv;obtain⟨vn,vg,vc,rfl,l,k,j⟩:=hv;obtain⟨pn,cn,rfl⟩:=X0b l;obtain⟨pg,cg,rfl⟩:=X0b k;obtain⟨pc,cc,rfl⟩:=X0b j;obtain⟨E,G,F,D⟩:=hs;obtain⟨kind,d,n,g,⟨on,kd,pi,od⟩,c⟩:=m;unfold mchV strV;dsimp only at l k j E G F D hk ⊢;obtain rfl:=hk;have hA:=fun W' B=>Tx.X1s ⟨d.toArray⟩ W' B;rw[Dec.X5C] at hA;obtain⟨S,hS⟩: ∃S:ByteArray,(⟨d.toArray⟩:ByteArray)=S:=⟨_,rfl⟩;have q:d= []→S=⟨#[]⟩:=by rintro rfl;exact hS.symm
 have hSn: ¬d= []→¬S.size=0:=fun h e=>h (by rw[←hS] at e;exact List.length_eq_zero_iff.1 (by simpa [ByteArray.size] using e));rw[hS] at hA ⊢;have hb:=X04 w (.cells #[.int .i64 4, .string S, .slice pn n.length cn, .slice pg g.length cg, .bool on, .int .i64 kd, .bool pi, .bool od, .slice pc c.length cc] 46);have hx:=hid (X0g w #[.int .i64 4, .string S, .slice pn n.length cn, .slice pg g.length cg, .bool on, .int .i64 kd, .bool pi, .bool od, .slice pc c.length cc] 46)
 obtain⟨W,hW⟩: ∃W,w.alloc (.cells #[.int .i64 4, .string S, .slice pn n.length cn, .slice pg g.length cg, .bool on, .int .i64 kd, .bool pi, .bool od, .slice pc c.length cc] 46)=W:=⟨_,rfl⟩;rw[hW] at hb hx;have y:=hid (X03 l hb);have x:=hid (X03 k hb);have u:=hid (X03 j hb);have C:=hid (XyL hT hb);have f:=fun W' (h:RI W' (.slice pn n.length cn) n)=>Xe1 _ n W' (by omega) h;have a:=fun W' (h:RI W' (.slice pg g.length cg) g)=>XfX _ g ⟨on,kd,pi,od⟩ W' (by omega) h;have i:=fun W' (h:RI W' (.slice pc c.length cc) c)=>X3i _ c (-1) W' (by omega) h;unfold sgV at a;dsimp only at a
 obtain⟨R,hR⟩: ∃R,Mch.saneM ⟨4,d,n,g,⟨on,kd,pi,od⟩,c⟩=R:=⟨_,rfl⟩;rw[hR];unfold Mch.saneM at hR;dsimp only at hR;rw[X3j] at hR;obtain⟨A,s⟩: ∃A,Dec.saneL d=A:=⟨_,rfl⟩;obtain⟨Bn,t⟩: ∃Bn,Nor.saneB n=Bn:=⟨_,rfl⟩;obtain⟨Cg,p⟩: ∃Cg,Sgm.saneB g ⟨on,kd,pi,od⟩=Cg:=⟨_,rfl⟩;obtain⟨Ct,b⟩: ∃Ct,c.contains (-1)=Ct:=⟨_,rfl⟩;have r:Cg=true→g= []→on=false:=by rintro rfl rfl;exact X5k p
 rw[s] at hA hR;rw[t] at f hR;rw[p] at a hR;rw[b] at i hR;have o:c= []→Ct=false:=by rintro rfl;rw[←b];rfl
 replace hA:=hid hA;replace f:=hid f;replace a:=hid a;replace i:=hid i;replace hR:=hid hR;replace hb:=hid hb;replace hW:=hid hW;replace r:=hid r;replace q:=hid q;replace hSn:=hid hSn;replace o:=hid o;clear l k j s t p b hS hT H;go_enter Tryz.func46,Tryz.ntmps46;go_upto_region 1 with(fail);rw[hW.out];obtain⟨c0,c1,c2,c3,c4,c5,c6,c7,c8⟩:=held9 hx.out;go_upto_region 2 with(fail);refine wp_region_lit ?_;simp only[List.append];go_wp2_with fail;refine(hA.out _ C.out).mono ?_;rintro e w1 ⟨rfl,q1⟩;have x1:=hid (X02 hx.out q1);have b1:=hid (X05 hb.out q1);have n1:=hid (X03 y.out q1)
 have g1:=hid (X03 x.out q1);have v1:=hid (X03 u.out q1);clear c0 c1 c2 c3 c4 c5 c6 c7 c8 q1;obtain⟨c0,c1,c2,c3,c4,c5,c6,c7,c8⟩:=held9 x1.out;rcases A with _ | _
 ·skip;go_wp2_with fail;go_ret;exact⟨X0p (by rw[←hR.out];simp),b1.out⟩
 ·skip;by_cases hd:d= []
  ·skip;have z:=q.out hd;subst z;subst hd;clear hSn;go_wp2_with fail;refine(f.out _ n1.out).mono ?_;rintro e w2 ⟨rfl,q2⟩;have x2:=hid (X02 x1.out q2);have b2:=hid (X05 b1.out q2);have g2:=hid (X03 g1.out q2);have v2:=hid (X03 v1.out q2);clear c0 c1 c2 c3 c4 c5 c6 c7 c8 q2;obtain⟨c0,c1,c2,c3,c4,c5,c6,c7,c8⟩:=held9 x2.out;rcases Bn with _ | _
   ·skip;go_wp2_with fail;go_ret;exact⟨X0p (by rw[←hR.out];simp),b2.out⟩
   ·skip;by_cases hn:n= []
    ·skip;subst hn;go_wp2_with fail;refine(a.out _ g2.out).mono ?_;rintro e w3 ⟨rfl,q3⟩;have x3:=hid (X02 x2.out q3);have b3:=hid (X05 b2.out q3);have v3:=hid (X03 v2.out q3);clear c0 c1 c2 c3 c4 c5 c6 c7 c8 q3;obtain⟨c0,c1,c2,c3,c4,c5,c6,c7,c8⟩:=held9 x3.out;rcases Cg with _ | _
     ·skip;go_wp2_with fail;go_ret;exact⟨X0p (by rw[←hR.out];simp),b3.out⟩
     ·skip;by_cases hg:g= []
      ·skip;obtain rfl:=r.out rfl hg;subst hg;by_cases h32:c.length≤32
       ·skip;have I:(c.length:Int)≤32:=by omega
        go_wp2_with fail;refine(i.out _ v3.out).mono ?_;rintro e w4 ⟨rfl,rfl⟩;go_wp2_with fail;go_ret;exact⟨X0p (by rw[←hR.out];simp [h32]),b3.out⟩
       ·skip;have I: ¬(c.length:Int)≤32:=by omega
        go_wp2_with fail;go_ret;exact⟨X0p (by rw[←hR.out];simp [h32]),b3.out⟩
      ·skip;have tg: ¬((g.length:Int)=0):=fun e=>hg (List.eq_nil_of_length_eq_zero (by omega));have ug:((g.length:Int) == 0)=false:=beq_eq_false_iff_ne.2 tg;clear tg;go_wp2_with fail;go_ret;exact⟨X0p (by rw[←hR.out];simp [hg]),b3.out⟩
    ·skip;have tn: ¬((n.length:Int)=0):=fun e=>hn (List.eq_nil_of_length_eq_zero (by omega));have un:((n.length:Int) == 0)=false:=beq_eq_false_iff_ne.2 tn;clear tn;go_wp2_with fail;go_ret;exact⟨X0p (by rw[←hR.out];simp [hn]),b2.out⟩
  ·skip;have uS:((S.size:Int) == 0)=false:=beq_eq_false_iff_ne.2 (by have:=hSn.out hd;omega);go_wp2_with fail;go_ret;exact⟨X0p (by rw[←hR.out];simp [hd]),b1.out⟩
theorem Xpr(v:Value)(m:MS)(w:World)(hk: ¬(0≤m.kind∧m.kind≤4))(hT:Tabs w)(hs:Mch.Small m)(hv:RM w v m):Calls Tryz.prog 46 #[v] w fun e w'=>e= .returned (.bool (Mch.saneM m))∧Below w.heap.size w w':=by
 have C:=hv;obtain⟨vn,vg,vc,rfl,j,i,f⟩:=hv;obtain⟨pn,cn,rfl⟩:=X0b j;obtain⟨pg,cg,rfl⟩:=X0b i;obtain⟨pc,cc,rfl⟩:=X0b f;obtain⟨y,B,z,x⟩:=hs;obtain⟨kind,d,n,g,⟨on,kd,pi,od⟩,c⟩:=m;unfold mchV strV;dsimp only at j i f y B z x hk ⊢;skip;have hA:=fun W' u=>Tx.X1s ⟨d.toArray⟩ W' u;rw[Dec.X5C] at hA;obtain⟨S,hS⟩: ∃S:ByteArray,(⟨d.toArray⟩:ByteArray)=S:=⟨_,rfl⟩;have s:d= []→S=⟨#[]⟩:=by rintro rfl;exact hS.symm
 have hSn: ¬d= []→¬S.size=0:=fun h e=>h (by rw[←hS] at e;exact List.length_eq_zero_iff.1 (by simpa [ByteArray.size] using e));rw[hS] at hA ⊢;have hb:=X04 w (.cells #[.int .i64 kind, .string S, .slice pn n.length cn, .slice pg g.length cg, .bool on, .int .i64 kd, .bool pi, .bool od, .slice pc c.length cc] 46);have hx:=hid (X0g w #[.int .i64 kind, .string S, .slice pn n.length cn, .slice pg g.length cg, .bool on, .int .i64 kd, .bool pi, .bool od, .slice pc c.length cc] 46)
 obtain⟨W,hW⟩: ∃W,w.alloc (.cells #[.int .i64 kind, .string S, .slice pn n.length cn, .slice pg g.length cg, .bool on, .int .i64 kd, .bool pi, .bool od, .slice pc c.length cc] 46)=W:=⟨_,rfl⟩;rw[hW] at hb hx;have F:=hid (X03 j hb);have E:=hid (X03 i hb);have D:=hid (X03 f hb);have G:=hid (XyL hT hb);have l:=fun W' (h:RI W' (.slice pn n.length cn) n)=>Xe1 _ n W' (by omega) h;have a:=fun W' (h:RI W' (.slice pg g.length cg) g)=>XfX _ g ⟨on,kd,pi,od⟩ W' (by omega) h;have p:=fun W' (h:RI W' (.slice pc c.length cc) c)=>X3i _ c (-1) W' (by omega) h;unfold sgV at a;dsimp only at a
 obtain⟨R,hR⟩: ∃R,Mch.saneM ⟨kind,d,n,g,⟨on,kd,pi,od⟩,c⟩=R:=⟨_,rfl⟩;rw[hR];unfold Mch.saneM at hR;dsimp only at hR;rw[X3j] at hR;obtain⟨A,q⟩: ∃A,Dec.saneL d=A:=⟨_,rfl⟩;obtain⟨Bn,r⟩: ∃Bn,Nor.saneB n=Bn:=⟨_,rfl⟩;obtain⟨Cg,o⟩: ∃Cg,Sgm.saneB g ⟨on,kd,pi,od⟩=Cg:=⟨_,rfl⟩;obtain⟨Ct,b⟩: ∃Ct,c.contains (-1)=Ct:=⟨_,rfl⟩;have t:Cg=true→g= []→on=false:=by rintro rfl rfl;exact X5k o
 rw[q] at hA hR;rw[r] at l hR;rw[o] at a hR;rw[b] at p hR;have k:c= []→Ct=false:=by rintro rfl;rw[←b];rfl
 replace hA:=hid hA;replace l:=hid l;replace a:=hid a;replace p:=hid p;replace hR:=hid hR;replace hb:=hid hb;replace hW:=hid hW;replace t:=hid t;replace s:=hid s;replace hSn:=hid hSn;replace k:=hid k;clear j i f q r o b hS hT C;have t1:kind<0∨(¬kind<0∧4<kind):=by omega
 rcases t1 with t1 | ⟨t1,t2⟩
 ·have t3: ¬(0≤kind):=by omega
  go_enter Tryz.func46,Tryz.ntmps46;go_upto_region 1 with(fail);rw[hW.out];obtain⟨c0,c1,c2,c3,c4,c5,c6,c7,c8⟩:=held9 hx.out;go_upto_region 2 with(fail);refine wp_region_lit ?_;simp only[List.append];go_wp2_with fail;go_ret;exact⟨X0p (by rw[←hR.out];simp;omega),hb.out⟩
 ·have t3:0≤kind:=by omega
  have t4: ¬(kind≤4):=by omega
  go_enter Tryz.func46,Tryz.ntmps46;go_upto_region 1 with(fail);rw[hW.out];obtain⟨c0,c1,c2,c3,c4,c5,c6,c7,c8⟩:=held9 hx.out;go_upto_region 2 with(fail);refine wp_region_lit ?_;simp only[List.append];go_wp2_with fail;go_ret;exact⟨X0p (by rw[←hR.out];simp;omega),hb.out⟩
theorem Xfz(v:Value)(m:MS)(w:World)(hT:Tabs w)(hs:Mch.Small m)(hv:RM w v m):Calls Tryz.prog 46 #[v] w fun e w'=>e= .returned (.bool (Mch.saneM m))∧Below w.heap.size w w':=by
 by_cases hk:0≤m.kind∧m.kind≤4
 ·have a:m.kind=0∨m.kind=1∨m.kind=2∨m.kind=3∨m.kind=4:=by omega
  rcases a with h | h | h | h | h
  ·exact Xtr v m w h hT hs hv
  ·exact Xts v m w h hT hs hv
  ·exact Xtt v m w h hT hs hv
  ·exact Xtu v m w h hT hs hv
  ·exact Xtv v m w h hT hs hv
 ·exact Xpr v m w hk hT hs hv
theorem XdB:SaneC15:=fun v m w hT hs hv=>Xfz v m w hT hs hv
def XdC(v:Value)(m:MS)(w:World)(e:Ending)(w':World):Prop:=∃va,e= .returned va∧RM w' va (Mch.asM m)∧(∀j,OffM j v→OffM j va)∧Below w.heap.size w w'
theorem X8N(v:Value)(m:MS)(w:World)(hT:Tabs w)(hs:Mch.Small m)(hv:RM w v m):Calls Tryz.prog 78 #[v] w (XdC v m w):=by
 have u:=hv;obtain⟨vn,vg,vc,rfl,z,y,x⟩:=hv;obtain⟨pn,cn,rfl⟩:=X0b z;obtain⟨pg,cg,rfl⟩:=X0b y;obtain⟨pc,cc,rfl⟩:=X0b x;have t:=X0g w #[.int .i64 m.kind, .string ⟨m.d.toArray⟩, .slice pn m.n.length cn, .slice pg m.g.length cg, .bool m.s.on, .int .i64 m.s.kind, .bool m.s.pict, .bool m.s.odd, .slice pc m.c.length cc] 46;have i:=X0l t (.cells (bare9 0) 46);have k:=X0g (w.alloc (.cells #[.int .i64 m.kind, .string ⟨m.d.toArray⟩, .slice pn m.n.length cn, .slice pg m.g.length cg, .bool m.s.on, .int .i64 m.s.kind, .bool m.s.pict, .bool m.s.odd, .slice pc m.c.length cc] 46)) (bare9 0) 46
 rw[World.size_alloc] at k;have p:=(X04 w (.cells #[.int .i64 m.kind, .string ⟨m.d.toArray⟩, .slice pn m.n.length cn, .slice pg m.g.length cg, .bool m.s.on, .int .i64 m.s.kind, .bool m.s.pict, .bool m.s.odd, .slice pc m.c.length cc] 46)).alloc (by simp) (.cells (bare9 0) 46);obtain⟨W,hW⟩: ∃W,(w.alloc (.cells #[.int .i64 m.kind, .string ⟨m.d.toArray⟩, .slice pn m.n.length cn, .slice pg m.g.length cg, .bool m.s.on, .int .i64 m.s.kind, .bool m.s.pict, .bool m.s.odd, .slice pc m.c.length cc] 46)).alloc (.cells (bare9 0) 46)=W:=⟨_,rfl⟩;rw[hW] at i k p;clear t;replace hW:=hid hW
 have a:=Xfz _ m W (XyL hT p) hs (X0d u p);have l:=fun W'=>X7x m.kind W';have r:Mch.saneM m=true→Mch.asM m=m:=Mch.X2E;have o:Mch.saneM m=false→Mch.asM m=Mch.bare (if 0≤m.kind∧m.kind≤4 then m.kind else 0):=fun h=>by unfold Mch.asM;rw[if_neg (by rw[h];simp)];rfl
 obtain⟨nk,A⟩: ∃nk,(if 0≤m.kind∧m.kind≤4 then m.kind else 0)=nk:=⟨_,rfl⟩;rw[A] at o l;obtain⟨M,hM⟩: ∃M,Mch.asM m=M:=⟨_,rfl⟩;unfold XdC;rw[hM] at r o ⊢;obtain⟨b,hb⟩: ∃b,Mch.saneM m=b:=⟨_,rfl⟩;rw[hb] at a r o;unfold mchV strV at a ⊢;replace a:=hid a;replace l:=hid l;replace r:=hid r;replace o:=hid o;replace i:=hid i;replace k:=hid k;replace p:=hid p;replace u:=hid u;replace z:=hid z;replace y:=hid y;replace x:=hid x;clear hM hb A hs hT;go_enter Tryz.func78,Tryz.ntmps78;go_upto_region 1 with(fail);rw[hW.out];obtain⟨k0,k1,k2,k3,k4,k5,k6,k7,k8⟩:=held9 i.out;go_wp2_with fail;refine a.out.mono ?_
 rintro e w1 ⟨rfl,q1⟩;have x1:=hid (X02 i.out q1);have r1:=hid (X02 k.out q1);have b1:=hid (X05 p.out q1);clear q1 k0 k1 k2 k3 k4 k5 k6 k7 k8;obtain⟨k0,k1,k2,k3,k4,k5,k6,k7,k8⟩:=held9 x1.out;rcases b with _ | _
 ·obtain rfl:=o.out rfl;go_wp2_with fail;refine(l.out _).mono ?_;rintro e w2 ⟨rfl,q2⟩;have r2:=X02 r1.out q2;have b2:=hid (X05 b1.out q2);clear q2;obtain⟨y0,y1,y2,y3,y4,y5,y6,y7,y8⟩:=held9 r2;have B:=X06 r2 0;have C:=X06 r2 1;have D:=X06 r2 2;have E:=X06 r2 3;have F:=X06 r2 4;have G:=X06 r2 5;have H:=X06 r2 6;have I:=X06 r2 7;have K:=X06 r2 8;replace r2:=hid r2;go_wp2_with fail;have n9:=X2g r2.out (.int .i64 nk) (.string ⟨#[]⟩) nilV nilV (.bool false) (.int .i64 0) (.bool false) (.bool false) nilV;unfold set9 at n9
  have q:=X4w b2.out (Nat.le_succ w.heap.size) (.int .i64 nk) (.string ⟨#[]⟩) nilV nilV (.bool false) (.int .i64 0) (.bool false) (.bool false) nilV;unfold set9 at q;obtain⟨z0,z1,z2,z3,z4,z5,z6,z7,z8⟩:=held9 n9;refine bodyPost_ret (v:= .agg (bare9 nk)) ?_ rfl ⟨_,rfl,⟨nilV,nilV,nilV,rfl, .inl ⟨rfl,rfl⟩, .inl ⟨rfl,rfl⟩, .inl ⟨rfl,rfl⟩⟩,fun j _=>(Xa0 j (Mch.bare nk) _ _ _).2 ⟨X6E j,X6E j,X6E j⟩,q⟩;simp [results,Tryz.results78,go_sem,z0,z1,z2,z3,z4,z5,z6,z7,z8]
 ·obtain rfl:=r.out rfl;have f:=r1.out;obtain⟨y0,y1,y2,y3,y4,y5,y6,y7,y8⟩:=held9 f;have B:=X06 f 0;have C:=X06 f 1;have D:=X06 f 2;have E:=X06 f 3;have F:=X06 f 4;have G:=X06 f 5;have H:=X06 f 6;have I:=X06 f 7;have K:=X06 f 8;clear f;go_wp2_with fail;have n9:=X2g r1.out (.int .i64 M.kind) (.string ⟨M.d.toArray⟩) (.slice pn M.n.length cn) (.slice pg M.g.length cg) (.bool M.s.on) (.int .i64 M.s.kind) (.bool M.s.pict) (.bool M.s.odd) (.slice pc M.c.length cc);unfold set9 at n9
  have q:=X4w b1.out (Nat.le_succ w.heap.size) (.int .i64 M.kind) (.string ⟨M.d.toArray⟩) (.slice pn M.n.length cn) (.slice pg M.g.length cg) (.bool M.s.on) (.int .i64 M.s.kind) (.bool M.s.pict) (.bool M.s.odd) (.slice pc M.c.length cc);unfold set9 at q;obtain⟨z0,z1,z2,z3,z4,z5,z6,z7,z8⟩:=held9 n9;refine bodyPost_ret (v:= .agg #[.int .i64 M.kind, .string ⟨M.d.toArray⟩, .slice pn M.n.length cn, .slice pg M.g.length cg, .bool M.s.on, .int .i64 M.s.kind, .bool M.s.pict, .bool M.s.odd, .slice pc M.c.length cc]) ?_ rfl ⟨_,rfl,X0d u.out q,fun j h=>h,q⟩
  simp [results,Tryz.results78,go_sem,z0,z1,z2,z3,z4,z5,z6,z7,z8]
theorem XdD(v:Value)(m:MS)(w:World)(hT:Tabs w)(h0:m.kind=0)(hv:RM w v m):Calls Tryz.prog 88 #[v] w (Makes (Mch.endK m) w):=by
 obtain⟨vn,vg,vc,rfl,k,j,i⟩:=hv;obtain⟨pn,cn,rfl⟩:=X0b k;obtain⟨pg,cg,rfl⟩:=X0b j;obtain⟨pc,cc,rfl⟩:=X0b i;have a:=X0g w #[.int .i64 m.kind, .string ⟨m.d.toArray⟩, .slice pn m.n.length cn, .slice pg m.g.length cg, .bool m.s.on, .int .i64 m.s.kind, .bool m.s.pict, .bool m.s.odd, .slice pc m.c.length cc] 46;have b:=X04 w (.cells #[.int .i64 m.kind, .string ⟨m.d.toArray⟩, .slice pn m.n.length cn, .slice pg m.g.length cg, .bool m.s.on, .int .i64 m.s.kind, .bool m.s.pict, .bool m.s.odd, .slice pc m.c.length cc] 46)
 obtain⟨W,hW⟩: ∃W,w.alloc (.cells #[.int .i64 m.kind, .string ⟨m.d.toArray⟩, .slice pn m.n.length cn, .slice pg m.g.length cg, .bool m.s.on, .int .i64 m.s.kind, .bool m.s.pict, .bool m.s.odd, .slice pc m.c.length cc] 46)=W:=⟨_,rfl⟩;rw[hW] at a b;replace hW:=hid hW;obtain⟨L,hL⟩: ∃L,Dec.endLL m.d=L:=⟨_,rfl⟩;have l:Mch.endK m=L:=by unfold Mch.endK;rw[if_pos h0,hL]
 rw[l];have f:=fun W' p=>Tx.X3N ⟨m.d.toArray⟩ W' p;rw[Dec.Xb2] at f;unfold Dec.endLL at hL;rw[hL] at f;have h:=XyL hT b;unfold mchV strV;replace f:=hid f;replace h:=hid h;replace a:=hid a;replace b:=hid b;replace k:=hid k;replace j:=hid j;replace i:=hid i;replace h0:=hid h0;clear l hT hL;go_enter Tryz.func88,Tryz.ntmps88;go_upto_region 1 with(fail);rw[hW.out];obtain⟨k0,k1,k2,k3,k4,k5,k6,k7,k8⟩:=held9 a.out;go_wp2_with fail;refine(f.out _ h.out).mono ?_;rintro e w3 ⟨vt,rfl,o,q3⟩;have o3:=hid (X0w (show OwnI _ vt L w3 from o) b.out.size);have b3:=hid (X05 b.out q3);clear q3 o;go_wp2_with fail
 go_ret;exact⟨_,rfl,o3.out,b3.out⟩
theorem X9W(v:Value)(m:MS)(w:World)(h0:m.kind=1∨m.kind=2)(hsm:Mch.Small m)(hv:RM w v m):Calls Tryz.prog 89 #[v] w (Makes (Mch.endK m) w):=by
 obtain⟨vn,vg,vc,rfl,j,l,k⟩:=hv;obtain⟨pn,cn,rfl⟩:=X0b j;obtain⟨pg,cg,rfl⟩:=X0b l;obtain⟨pc,cc,rfl⟩:=X0b k;have a:=X0g w #[.int .i64 m.kind, .string ⟨m.d.toArray⟩, .slice pn m.n.length cn, .slice pg m.g.length cg, .bool m.s.on, .int .i64 m.s.kind, .bool m.s.pict, .bool m.s.odd, .slice pc m.c.length cc] 46;have b:=X04 w (.cells #[.int .i64 m.kind, .string ⟨m.d.toArray⟩, .slice pn m.n.length cn, .slice pg m.g.length cg, .bool m.s.on, .int .i64 m.s.kind, .bool m.s.pict, .bool m.s.odd, .slice pc m.c.length cc] 46)
 obtain⟨W,hW⟩: ∃W,w.alloc (.cells #[.int .i64 m.kind, .string ⟨m.d.toArray⟩, .slice pn m.n.length cn, .slice pg m.g.length cg, .bool m.s.on, .int .i64 m.s.kind, .bool m.s.pict, .bool m.s.odd, .slice pc m.c.length cc] 46)=W:=⟨_,rfl⟩;rw[hW] at a b;replace hW:=hid hW;obtain⟨L,hL⟩: ∃L,Nor.endI m.n=L:=⟨_,rfl⟩;have o:Mch.endK m=L:=by unfold Mch.endK;rw[if_neg (by omega),if_pos h0,hL]
 rw[o];have f:=fun W' (h:RI W' (.slice pn m.n.length cn) m.n)=>Xxv _ m.n W' (by have:=hsm.n;omega) h;rw[hL] at f;unfold Makes at f;have i:=X03 j b;unfold mchV strV;replace f:=hid f;replace i:=hid i;replace a:=hid a;replace b:=hid b;replace j:=hid j;replace l:=hid l;replace k:=hid k;replace h0:=hid h0;clear o hL;go_enter Tryz.func89,Tryz.ntmps89;go_upto_region 1 with(fail);rw[hW.out];obtain⟨k0,k1,k2,k3,k4,k5,k6,k7,k8⟩:=held9 a.out;go_wp2_with fail;refine(f.out _ i.out).mono ?_;rintro e w3 ⟨vt,rfl,p,q3⟩;have o3:=hid (X0w p b.out.size);have b3:=hid (X05 b.out q3);clear q3 p;go_wp2_with fail
 go_ret;exact⟨_,rfl,o3.out,b3.out⟩
theorem XbB(v:Value)(m:MS)(w:World)(h0:m.kind=3)(hsn:Mch.Sane m)(hsm:Mch.Small m)(hv:RM w v m):Calls Tryz.prog 90 #[v] w (Makes (Mch.endK m) w):=by
 obtain⟨vn,vg,vc,rfl,p,k,o⟩:=hv;obtain⟨pn,cn,rfl⟩:=X0b p;obtain⟨pg,cg,rfl⟩:=X0b k;obtain⟨pc,cc,rfl⟩:=X0b o;have a:=X0g w #[.int .i64 m.kind, .string ⟨m.d.toArray⟩, .slice pn m.n.length cn, .slice pg m.g.length cg, .bool m.s.on, .int .i64 m.s.kind, .bool m.s.pict, .bool m.s.odd, .slice pc m.c.length cc] 46;have b:=X04 w (.cells #[.int .i64 m.kind, .string ⟨m.d.toArray⟩, .slice pn m.n.length cn, .slice pg m.g.length cg, .bool m.s.on, .int .i64 m.s.kind, .bool m.s.pict, .bool m.s.odd, .slice pc m.c.length cc] 46)
 obtain⟨W,hW⟩: ∃W,w.alloc (.cells #[.int .i64 m.kind, .string ⟨m.d.toArray⟩, .slice pn m.n.length cn, .slice pg m.g.length cg, .bool m.s.on, .int .i64 m.s.kind, .bool m.s.pict, .bool m.s.odd, .slice pc m.c.length cc] 46)=W:=⟨_,rfl⟩;rw[hW] at a b;replace hW:=hid hW;obtain⟨L,hL⟩: ∃L,Sgm.endI m.g m.s=L:=⟨_,rfl⟩;have q:Mch.endK m=Mch.cutOf L:=by unfold Mch.endK;rw[if_neg (by omega),if_neg (by omega),if_pos h0,hL]
 rw[q];have t:L.length≤1000:=by
  rw[←hL,Xql];have:=Xy6 m.g m.s;omega
 have f:=fun W' (h:RI W' (.slice pg m.g.length cg) m.g)=>Xv4 _ m.g m.s W' (by have:=hsm.g;omega) h;rw[hL] at f;have j:=fun W' u (h:RI W' u L)=>X9V u L W' t h;unfold Makes at j;unfold sgV at f;have i:=X03 k b;unfold mchV strV;replace f:=hid f;replace j:=hid j;replace i:=hid i;replace a:=hid a;replace b:=hid b;replace p:=hid p;replace k:=hid k;replace o:=hid o;replace h0:=hid h0;clear q hL;go_enter Tryz.func90,Tryz.ntmps90;go_upto_region 1 with(fail);rw[hW.out];obtain⟨k0,k1,k2,k3,k4,k5,k6,k7,k8⟩:=held9 a.out;go_wp2_with fail;refine(f.out _ i.out).mono ?_;rintro e w3 ⟨vt,rfl,l,q3⟩
 have b3:=hid (X05 b.out q3);obtain⟨pt,ct,rfl⟩:=X0b (X0a l);have t3:=hid (X0a l);clear q3 l;go_wp2_with fail;refine(j.out _ _ t3.out).mono ?_;rintro e w4 ⟨vu,rfl,r,q4⟩;have o4:=hid (X0w r b3.out.size);have b4:=hid (X05 b3.out q4);clear q4 r;go_wp2_with fail;go_ret;exact⟨_,rfl,o4.out,b4.out⟩
theorem XdE(v:Value)(m:MS)(w:World)(h0:m.kind=4)(hv:RM w v m):Calls Tryz.prog 91 #[v] w (Makes (Mch.endK m) w):=by
 obtain⟨vn,vg,vc,rfl,h,f,e⟩:=hv;obtain⟨pn,cn,rfl⟩:=X0b h;obtain⟨pg,cg,rfl⟩:=X0b f;obtain⟨pc,cc,rfl⟩:=X0b e;have a:=X0g w #[.int .i64 m.kind, .string ⟨m.d.toArray⟩, .slice pn m.n.length cn, .slice pg m.g.length cg, .bool m.s.on, .int .i64 m.s.kind, .bool m.s.pict, .bool m.s.odd, .slice pc m.c.length cc] 46;have b:=X04 w (.cells #[.int .i64 m.kind, .string ⟨m.d.toArray⟩, .slice pn m.n.length cn, .slice pg m.g.length cg, .bool m.s.on, .int .i64 m.s.kind, .bool m.s.pict, .bool m.s.odd, .slice pc m.c.length cc] 46)
 obtain⟨W,hW⟩: ∃W,w.alloc (.cells #[.int .i64 m.kind, .string ⟨m.d.toArray⟩, .slice pn m.n.length cn, .slice pg m.g.length cg, .bool m.s.on, .int .i64 m.s.kind, .bool m.s.pict, .bool m.s.odd, .slice pc m.c.length cc] 46)=W:=⟨_,rfl⟩;rw[hW] at a b;replace hW:=hid hW;have i:Mch.endK m= []:=by unfold Mch.endK;rw[if_neg (by omega),if_neg (by omega),if_neg (by omega)]
 rw[i];unfold mchV strV;replace a:=hid a;replace b:=hid b;replace h:=hid h;replace f:=hid f;replace e:=hid e;replace h0:=hid h0;clear i;go_enter Tryz.func91,Tryz.ntmps91;go_upto_region 1 with(fail);rw[hW.out];obtain⟨k0,k1,k2,k3,k4,k5,k6,k7,k8⟩:=held9 a.out;go_wp2_with fail;go_ret;exact⟨_,rfl,X0O _ _,b.out⟩
end Go.Proofs.YtkofnpkopbnocaaGreatDoor
