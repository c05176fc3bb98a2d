import Derived.Test.YtkofnpkopbnocaaGreatDoorMaBP
import Derived.Test.YtkofnpkopbnocaaGreatDoorDcRP
import Derived.Test.YtkofnpkopbnocaaGreatDoorNoRP
import Derived.Test.YtkofnpkopbnocaaGreatDoorSgRP
set_option linter.unusedSimpArgs false
set_option linter.unusedVariables false
set_option maxRecDepth 100000
set_option maxHeartbeats 12800000
namespace Go.Proofs.YtkofnpkopbnocaaGreatDoor
open Go.RowKit Go.Lib
open Mch (MS)
theorem X6I(v:Value)(m:MS)(w:World)(hs:Mch.Small m)(hv:RM w v m):Calls Tryz.prog 48 #[v] w fun e w'=>e= .returned (.bool (Mch.saneM m))∧Below w.heap.size w w':=by
 obtain⟨vn,vg,vc,rfl,E,D,C⟩:=hv;obtain⟨pn,cn,rfl⟩:=X0b E;obtain⟨pg,cg,rfl⟩:=X0b D;obtain⟨pc,cc,rfl⟩:=X0b C;obtain⟨N,P,O,M⟩:=hs;obtain⟨kind,d,n,g,⟨on,kd,pi,od⟩,c⟩:=m;unfold mchV strV;dsimp only at E D C N P O M ⊢;obtain⟨S,hS⟩: ∃S:ByteArray,(⟨d.toArray⟩:ByteArray)=S:=⟨_,rfl⟩;have I:S.data.toList=d:=by rw[←hS]
 have j:S=⟨#[]⟩↔d= []:=by
  rw[←hS];constructor
  ·intro h;have:=congrArg (fun b:ByteArray=>b.data.toList) h;simpa using this
  ·rintro rfl;rfl
 have B:RowKit.Hid (S.size=0↔d= []):=by
  rw[←hS,show (⟨d.toArray⟩:ByteArray).size=d.length by show d.toArray.size=_;simp];exact List.length_eq_zero_iff
 rw[hS];have hb:=X04 w (.cells #[.int .i64 kind, .string S, .slice pn n.length cn, .slice pg g.length cg, .bool on, .int .i64 kd, .bool pi, .bool od, .slice pc c.length cc] 32);have hx:=hid (X0g w #[.int .i64 kind, .string S, .slice pn n.length cn, .slice pg g.length cg, .bool on, .int .i64 kd, .bool pi, .bool od, .slice pc c.length cc] 32);obtain⟨W,hW⟩: ∃W,w.alloc (.cells #[.int .i64 kind, .string S, .slice pn n.length cn, .slice pg g.length cg, .bool on, .int .i64 kd, .bool pi, .bool od, .slice pc c.length cc] 32)=W:=⟨_,rfl⟩;rw[hW] at hb hx;have q:=hid (X03 E hb);have p:=hid (X03 D hb)
 have o:=hid (X03 C hb);have hA:=fun W'=>Tq.X5f S d I (by omega) W';have r:=fun W' (h:RI W' (.slice pn n.length cn) n)=>Xba _ n W' (by omega) h;have l:=fun W' (h:RI W' (.slice pg g.length cg) g)=>X91 _ g ⟨on,kd,pi,od⟩ W' (by omega) h;unfold sgV at l;dsimp only at l;obtain⟨R,hR⟩: ∃R,Mch.saneM ⟨kind,d,n,g,⟨on,kd,pi,od⟩,c⟩=R:=⟨_,rfl⟩;rw[hR];unfold Mch.saneM at hR;dsimp only at hR;obtain⟨A,F⟩: ∃A,Dec.saneL d=A:=⟨_,rfl⟩;obtain⟨Bn,G⟩: ∃Bn,Nor.saneB n=Bn:=⟨_,rfl⟩;obtain⟨Cg,H⟩: ∃Cg,Sgm.saneB g ⟨on,kd,pi,od⟩=Cg:=⟨_,rfl⟩;rw[F] at hA hR;rw[G] at r hR;rw[H] at l hR;unfold Tq.X5e at hA;replace hA:=hid hA
 replace r:=hid r;replace l:=hid l;replace hR:=hid hR;replace hb:=hid hb;replace hW:=hid hW;clear E D C F G H hS I;replace j:=hid j;by_cases hk:0≤kind∧kind≤4
 ·rcases A with _ | _
  ·obtain⟨k1,k2⟩:=hk;have t1: ¬kind<0:=by omega
   have t2: ¬4<kind:=by omega
   go_enter Tryz.func48,Tryz.ntmps48;go_upto_region 1 with(fail);rw[hW.out];obtain⟨c0,c1,c2,c3,c4,c5,c6,c7,c8⟩:=held9 hx.out;go_wp2_with (first | (go_at_call 79;refine(hA.out _).mono ?_;rintro e w1 ⟨rfl,q1⟩;have x1:=hid (X02 hx.out q1);have b1:=hid (X05 hb.out q1);clear c0 c1 c2 c3 c4 c5 c6 c7 c8;obtain⟨c0,c1,c2,c3,c4,c5,c6,c7,c8⟩:=held9 x1.out;have n1:=hid (X03 q.out q1);have g1:=hid (X03 p.out q1);have v1:=hid (X03 o.out q1);clear q1));go_ret;exact⟨X0p (by rw[←hR.out];simp),b1.out⟩
  ·rcases Bn with _ | _
   ·obtain⟨k1,k2⟩:=hk;have t1: ¬kind<0:=by omega
    have t2: ¬4<kind:=by omega
    go_enter Tryz.func48,Tryz.ntmps48;go_upto_region 1 with(fail);rw[hW.out];obtain⟨c0,c1,c2,c3,c4,c5,c6,c7,c8⟩:=held9 hx.out
    go_wp2_with (first | (go_at_call 79;refine(hA.out _).mono ?_;rintro e w1 ⟨rfl,q1⟩;have x1:=hid (X02 hx.out q1);have b1:=hid (X05 hb.out q1);clear c0 c1 c2 c3 c4 c5 c6 c7 c8;obtain⟨c0,c1,c2,c3,c4,c5,c6,c7,c8⟩:=held9 x1.out;have n1:=hid (X03 q.out q1);have g1:=hid (X03 p.out q1);have v1:=hid (X03 o.out q1);clear q1) | (go_at_call 80;refine(r.out _ n1.out).mono ?_;rintro e w2 ⟨rfl,q2⟩;have x2:=hid (X02 x1.out q2);have b2:=hid (X05 b1.out q2);clear c0 c1 c2 c3 c4 c5 c6 c7 c8;obtain⟨c0,c1,c2,c3,c4,c5,c6,c7,c8⟩:=held9 x2.out;have g2:=hid (X03 g1.out q2);have v2:=hid (X03 v1.out q2);clear q2))
    go_ret;exact⟨X0p (by rw[←hR.out];simp),b2.out⟩
   ·rcases Cg with _ | _
    ·obtain⟨k1,k2⟩:=hk;have t1: ¬kind<0:=by omega
     have t2: ¬4<kind:=by omega
     go_enter Tryz.func48,Tryz.ntmps48;go_upto_region 1 with(fail);rw[hW.out];obtain⟨c0,c1,c2,c3,c4,c5,c6,c7,c8⟩:=held9 hx.out
     go_wp2_with (first | (go_at_call 79;refine(hA.out _).mono ?_;rintro e w1 ⟨rfl,q1⟩;have x1:=hid (X02 hx.out q1);have b1:=hid (X05 hb.out q1);clear c0 c1 c2 c3 c4 c5 c6 c7 c8;obtain⟨c0,c1,c2,c3,c4,c5,c6,c7,c8⟩:=held9 x1.out;have n1:=hid (X03 q.out q1);have g1:=hid (X03 p.out q1);have v1:=hid (X03 o.out q1);clear q1) | (go_at_call 80;refine(r.out _ n1.out).mono ?_;rintro e w2 ⟨rfl,q2⟩;have x2:=hid (X02 x1.out q2);have b2:=hid (X05 b1.out q2);clear c0 c1 c2 c3 c4 c5 c6 c7 c8;obtain⟨c0,c1,c2,c3,c4,c5,c6,c7,c8⟩:=held9 x2.out;have g2:=hid (X03 g1.out q2);have v2:=hid (X03 v1.out q2);clear q2) | (go_at_call 81;refine(l.out _ g2.out).mono ?_;rintro e w3 ⟨rfl,q3⟩;have x3:=hid (X02 x2.out q3);have b3:=hid (X05 b2.out q3);clear c0 c1 c2 c3 c4 c5 c6 c7 c8;obtain⟨c0,c1,c2,c3,c4,c5,c6,c7,c8⟩:=held9 x3.out;have v3:=hid (X03 v2.out q3);clear q3))
     go_ret;exact⟨X0p (by rw[←hR.out];simp),b3.out⟩
    ·have t1: ¬kind<0:=by omega
     have t2: ¬4<kind:=by omega
     by_cases h32:c.length≤32
     ·have t3: ¬(32:Int)<(c.length:Int):=by omega
      replace hk:=hid hk;go_enter Tryz.func48,Tryz.ntmps48;go_upto_region 1 with(fail);rw[hW.out];obtain⟨c0,c1,c2,c3,c4,c5,c6,c7,c8⟩:=held9 hx.out
      go_wp2_with (first | (go_at_call 79;refine(hA.out _).mono ?_;rintro e w1 ⟨rfl,q1⟩;have x1:=hid (X02 hx.out q1);have b1:=hid (X05 hb.out q1);clear c0 c1 c2 c3 c4 c5 c6 c7 c8;obtain⟨c0,c1,c2,c3,c4,c5,c6,c7,c8⟩:=held9 x1.out;have n1:=hid (X03 q.out q1);have g1:=hid (X03 p.out q1);have v1:=hid (X03 o.out q1);clear q1) | (go_at_call 80;refine(r.out _ n1.out).mono ?_;rintro e w2 ⟨rfl,q2⟩;have x2:=hid (X02 x1.out q2);have b2:=hid (X05 b1.out q2);clear c0 c1 c2 c3 c4 c5 c6 c7 c8;obtain⟨c0,c1,c2,c3,c4,c5,c6,c7,c8⟩:=held9 x2.out;have g2:=hid (X03 g1.out q2);have v2:=hid (X03 v1.out q2);clear q2) | (go_at_call 81;refine(l.out _ g2.out).mono ?_;rintro e w3 ⟨rfl,q3⟩;have x3:=hid (X02 x2.out q3);have b3:=hid (X05 b2.out q3);clear c0 c1 c2 c3 c4 c5 c6 c7 c8;obtain⟨c0,c1,c2,c3,c4,c5,c6,c7,c8⟩:=held9 x3.out;have v3:=hid (X03 v2.out q3);clear q3))
      go_loopg [3] c.length (fun g vi wr=>∃k:Nat,k≤c.length∧vi= .int .i64 k∧g=c.length - k∧(∀i (h:i<c.length),i<k→c[i]≠ -1)∧wr=w3)
      case atStart=>exact⟨0,Nat.zero_le _,rfl,rfl,fun i _ hi=>absurd hi (Nat.not_lt_zero _),rfl⟩
      case round=>
       obtain⟨k,T,rfl,rfl,f,rfl⟩:=hrel;by_cases hlt:k<c.length
       ·have K:(k:Int)<(c.length:Int):=by omega
        obtain⟨b,off,rfl,hb,z⟩:=ri_at v3.out (by omega);have hc:=z k hlt;have y:=List.getElem_mem hlt;obtain⟨x,hx⟩: ∃x,c[k]=x:=⟨_,rfl⟩;rw[hx] at hc y;clear z;replace y:=hid y;by_cases h1:x= -1
        ·subst h1;replace hx:=hid hx;replace f:=hid f;have a:(c.all fun x=>decide (x≠ -1))=false:=by
          rw[List.all_eq_false];exact⟨-1,y.out,by simp⟩
         replace a:=hid a;go_wp2_with fail;go_ret;exact⟨X0p (by rw[←hR.out,a.out];simp),b3.out⟩
        ·have u: ∀i (h:i<c.length),i<k+1→c[i]≠ -1:=by
          intro i h hi;rcases Nat.lt_or_ge i k with h' | h'
          ·exact f i h h'
          ·obtain rfl:i=k:=by omega
           rw[hx];exact h1
         replace hx:=hid hx;replace f:=hid f;replace u:=hid u;go_wp2_with fail;go_roundg (c.length - (k+1))
         case measure=>omega
         case rel=>exact⟨k+1,by omega,by go_num,rfl,u.out,rfl⟩
       ·obtain rfl:k=c.length:=by omega
        have K:decide ((c.length:Int)<(c.length:Int))=false:=by simp
        have a:(c.all fun x=>decide (x≠ -1))=true:=by
         rw[List.all_eq_true];intro x hx;obtain⟨i,hi,rfl⟩:=List.mem_iff_getElem.1 hx;simpa using f i hi hi
        replace a:=hid a;replace f:=hid f;go_upto_region 8 with(fail);have L:kind=0∨kind=1∨kind=2∨kind=3∨kind=4:=by have:=hk.out;omega
        clear hk t1 t2;rcases L with rfl | rfl | rfl | rfl | rfl
        ·skip;by_cases hn:n= []
         ·skip;subst hn;by_cases hg:g= []
          ·skip;subst hg;rcases on with _ | _
           ·skip;by_cases hc:c= []
            ·skip;subst hc;go_wp2_with fail;go_ret;refine⟨X0p ?_,b3.out⟩;rw[←hR.out,a.out];simp [h32]
            ·skip;have tc: ¬((c.length:Int)=0):=fun e=>hc (List.eq_nil_of_length_eq_zero (by omega));have uc:((c.length:Int) == 0)=false:=beq_eq_false_iff_ne.2 tc;go_wp2_with fail;go_ret;refine⟨X0p ?_,b3.out⟩;rw[←hR.out,a.out];simp [h32,hc,uc]
           ·skip;go_wp2_with fail;go_ret;refine⟨X0p ?_,b3.out⟩;rw[←hR.out,a.out];simp [h32]
          ·skip;have tg: ¬((g.length:Int)=0):=fun e=>hg (List.eq_nil_of_length_eq_zero (by omega));have ug:((g.length:Int) == 0)=false:=beq_eq_false_iff_ne.2 tg;go_wp2_with fail;go_ret;refine⟨X0p ?_,b3.out⟩;rw[←hR.out,a.out];simp [h32,hg,ug]
         ·skip;have tn: ¬((n.length:Int)=0):=fun e=>hn (List.eq_nil_of_length_eq_zero (by omega));have un:((n.length:Int) == 0)=false:=beq_eq_false_iff_ne.2 tn;go_wp2_with fail;go_ret;refine⟨X0p ?_,b3.out⟩;rw[←hR.out,a.out];simp [h32,hn,un]
        ·skip;by_cases hd:d= []
         ·skip;have t:=j.out.2 hd;subst t;clear j;subst hd;by_cases hg:g= []
          ·skip;subst hg;rcases on with _ | _
           ·skip;by_cases hc:c= []
            ·skip;subst hc;go_wp2_with fail;go_ret;refine⟨X0p ?_,b3.out⟩;rw[←hR.out,a.out];simp [h32]
            ·skip;have tc: ¬((c.length:Int)=0):=fun e=>hc (List.eq_nil_of_length_eq_zero (by omega));have uc:((c.length:Int) == 0)=false:=beq_eq_false_iff_ne.2 tc;go_wp2_with fail;go_ret;refine⟨X0p ?_,b3.out⟩;rw[←hR.out,a.out];simp [h32,hc,uc]
           ·skip;go_wp2_with fail;go_ret;refine⟨X0p ?_,b3.out⟩;rw[←hR.out,a.out];simp [h32]
          ·skip;have tg: ¬((g.length:Int)=0):=fun e=>hg (List.eq_nil_of_length_eq_zero (by omega));have ug:((g.length:Int) == 0)=false:=beq_eq_false_iff_ne.2 tg;go_wp2_with fail;go_ret;refine⟨X0p ?_,b3.out⟩;rw[←hR.out,a.out];simp [h32,hg,ug]
         ·skip;have hSn:=Tq.X0X (s:=S) (fun e=>hd (B.out.1 e));go_wp2_with fail;go_ret;refine⟨X0p ?_,b3.out⟩;rw[←hR.out,a.out];simp [h32,hd]
        ·skip;by_cases hd:d= []
         ·skip;have t:=j.out.2 hd;subst t;clear j;subst hd;by_cases hg:g= []
          ·skip;subst hg;rcases on with _ | _
           ·skip;by_cases hc:c= []
            ·skip;subst hc;go_wp2_with fail;go_ret;refine⟨X0p ?_,b3.out⟩;rw[←hR.out,a.out];simp [h32]
            ·skip;have tc: ¬((c.length:Int)=0):=fun e=>hc (List.eq_nil_of_length_eq_zero (by omega));have uc:((c.length:Int) == 0)=false:=beq_eq_false_iff_ne.2 tc;go_wp2_with fail;go_ret;refine⟨X0p ?_,b3.out⟩;rw[←hR.out,a.out];simp [h32,hc,uc]
           ·skip;go_wp2_with fail;go_ret;refine⟨X0p ?_,b3.out⟩;rw[←hR.out,a.out];simp [h32]
          ·skip;have tg: ¬((g.length:Int)=0):=fun e=>hg (List.eq_nil_of_length_eq_zero (by omega));have ug:((g.length:Int) == 0)=false:=beq_eq_false_iff_ne.2 tg;go_wp2_with fail;go_ret;refine⟨X0p ?_,b3.out⟩;rw[←hR.out,a.out];simp [h32,hg,ug]
         ·skip;have hSn:=Tq.X0X (s:=S) (fun e=>hd (B.out.1 e));go_wp2_with fail;go_ret;refine⟨X0p ?_,b3.out⟩;rw[←hR.out,a.out];simp [h32,hd]
        ·skip;by_cases hd:d= []
         ·skip;have t:=j.out.2 hd;subst t;clear j;subst hd;by_cases hn:n= []
          ·skip;subst hn;by_cases hc:c= []
           ·skip;subst hc;go_wp2_with fail;go_ret;refine⟨X0p ?_,b3.out⟩;rw[←hR.out,a.out];simp [h32]
           ·skip;have tc: ¬((c.length:Int)=0):=fun e=>hc (List.eq_nil_of_length_eq_zero (by omega));have uc:((c.length:Int) == 0)=false:=beq_eq_false_iff_ne.2 tc;go_wp2_with fail;go_ret;refine⟨X0p ?_,b3.out⟩;rw[←hR.out,a.out];simp [h32,hc,uc]
          ·skip;have tn: ¬((n.length:Int)=0):=fun e=>hn (List.eq_nil_of_length_eq_zero (by omega));have un:((n.length:Int) == 0)=false:=beq_eq_false_iff_ne.2 tn;go_wp2_with fail;go_ret;refine⟨X0p ?_,b3.out⟩;rw[←hR.out,a.out];simp [h32,hn,un]
         ·skip;have hSn:=Tq.X0X (s:=S) (fun e=>hd (B.out.1 e));go_wp2_with fail;go_ret;refine⟨X0p ?_,b3.out⟩;rw[←hR.out,a.out];simp [h32,hd]
        ·skip;by_cases hd:d= []
         ·skip;have t:=j.out.2 hd;subst t;clear j;subst hd;by_cases hn:n= []
          ·skip;subst hn;by_cases hg:g= []
           ·skip;subst hg;rcases on with _ | _
            ·skip;go_wp2_with fail;go_ret;refine⟨X0p ?_,b3.out⟩;rw[←hR.out,a.out];simp [h32]
            ·skip;go_wp2_with fail;go_ret;refine⟨X0p ?_,b3.out⟩;rw[←hR.out,a.out];simp [h32]
           ·skip;have tg: ¬((g.length:Int)=0):=fun e=>hg (List.eq_nil_of_length_eq_zero (by omega));have ug:((g.length:Int) == 0)=false:=beq_eq_false_iff_ne.2 tg;go_wp2_with fail;go_ret;refine⟨X0p ?_,b3.out⟩;rw[←hR.out,a.out];simp [h32,hg,ug]
          ·skip;have tn: ¬((n.length:Int)=0):=fun e=>hn (List.eq_nil_of_length_eq_zero (by omega));have un:((n.length:Int) == 0)=false:=beq_eq_false_iff_ne.2 tn;go_wp2_with fail;go_ret;refine⟨X0p ?_,b3.out⟩;rw[←hR.out,a.out];simp [h32,hn,un]
         ·skip;have hSn:=Tq.X0X (s:=S) (fun e=>hd (B.out.1 e));go_wp2_with fail;go_ret;refine⟨X0p ?_,b3.out⟩;rw[←hR.out,a.out];simp [h32,hd]
     ·have t3:(32:Int)<(c.length:Int):=by omega
      go_enter Tryz.func48,Tryz.ntmps48;go_upto_region 1 with(fail);rw[hW.out];obtain⟨c0,c1,c2,c3,c4,c5,c6,c7,c8⟩:=held9 hx.out
      go_wp2_with (first | (go_at_call 79;refine(hA.out _).mono ?_;rintro e w1 ⟨rfl,q1⟩;have x1:=hid (X02 hx.out q1);have b1:=hid (X05 hb.out q1);clear c0 c1 c2 c3 c4 c5 c6 c7 c8;obtain⟨c0,c1,c2,c3,c4,c5,c6,c7,c8⟩:=held9 x1.out;have n1:=hid (X03 q.out q1);have g1:=hid (X03 p.out q1);have v1:=hid (X03 o.out q1);clear q1) | (go_at_call 80;refine(r.out _ n1.out).mono ?_;rintro e w2 ⟨rfl,q2⟩;have x2:=hid (X02 x1.out q2);have b2:=hid (X05 b1.out q2);clear c0 c1 c2 c3 c4 c5 c6 c7 c8;obtain⟨c0,c1,c2,c3,c4,c5,c6,c7,c8⟩:=held9 x2.out;have g2:=hid (X03 g1.out q2);have v2:=hid (X03 v1.out q2);clear q2) | (go_at_call 81;refine(l.out _ g2.out).mono ?_;rintro e w3 ⟨rfl,q3⟩;have x3:=hid (X02 x2.out q3);have b3:=hid (X05 b2.out q3);clear c0 c1 c2 c3 c4 c5 c6 c7 c8;obtain⟨c0,c1,c2,c3,c4,c5,c6,c7,c8⟩:=held9 x3.out;have v3:=hid (X03 v2.out q3);clear q3))
      go_ret;exact⟨X0p (by rw[←hR.out];simp;omega),b3.out⟩
 ·have t1:kind<0∨(¬kind<0∧4<kind):=by omega
  rcases t1 with t1 | ⟨t1,t2⟩
  ·skip;go_enter Tryz.func48,Tryz.ntmps48;go_upto_region 1 with(fail);rw[hW.out];obtain⟨c0,c1,c2,c3,c4,c5,c6,c7,c8⟩:=held9 hx.out;go_wp2_with fail;go_ret;exact⟨X0p (by rw[←hR.out];simp;omega),hb.out⟩
  ·skip;go_enter Tryz.func48,Tryz.ntmps48;go_upto_region 1 with(fail);rw[hW.out];obtain⟨c0,c1,c2,c3,c4,c5,c6,c7,c8⟩:=held9 hx.out;go_wp2_with fail;go_ret;exact⟨X0p (by rw[←hR.out];simp;omega),hb.out⟩
end Go.Proofs.YtkofnpkopbnocaaGreatDoor
