import Derived.Test.YtkofnpkopbnocaaGreatDoorTk
import Derived.Test.YtkofnpkopbnocaaGreatDoorStBk
import Derived.Test.YtkofnpkopbnocaaGreatDoorSc
import Derived.Test.YtkofnpkopbnocaaGreatDoorChPk
import Derived.Test.YtkofnpkopbnocaaGreatDoorMaAP
import Derived.Test.YtkofnpkopbnocaaGreatDoorMaAQ
import Derived.Test.YtkofnpkopbnocaaGreatDoorMaBP
import Derived.Test.YtkofnpkopbnocaaGreatDoorMaSk
import Derived.Deep.RegionHeld3
import Derived.WalkKit
import Derived.Deep.RegionHeld
import Derived.Deep.LoopGhost
import Derived.Deep.DeepCutAuto
import Derived.OrdersHeld
set_option linter.unusedSimpArgs false
set_option linter.unusedVariables false
set_option maxRecDepth 100000
set_option maxHeartbeats 12800000
namespace Go.Proofs.YtkofnpkopbnocaaGreatDoor
def lqb081:List (Nat × Nat):= [(0,17),(1,18),(2,19),(3,20),(4,21),(5,22),(6,16),(7,23),(8,24)]
def lq2481:List (Nat × Nat):= [(0,11),(1,12),(2,13),(3,14),(4,15),(5,16),(6,17)]
open Go Go.RowKit Go.Lib
open Mch (MS)
open Stg (Ch St)
theorem XGq(J:Nat→Prop)(v:Value)(c:Ch)(w:World)(hold:Old J w)(hf:c.Few)(hv:RCh J w v c):Calls Tryz.prog 36 #[v] w (ToldC J (Stg.asC c) w):=by
 obtain⟨X,rfl,b,d,_⟩:=rch_x hv;obtain⟨W,hW,x0,r0,bq,hz⟩:=wtwo (w:=w) (wx_C b d) wz_C;have rs:=X01 (XFA (K:=Jn 2 J w) hv XGo) bq;have a:=XeT (Jn 2 J w) _ c _ [] W (XGp hold (by omega)) hf (by simp) rs (XFD _ _);rw[Stg.XG6] at a;unfold TO16 at *
 unfold zeroC at hW;replace a:=hid a;replace hW:=hid hW;replace x0:=hid x0;replace r0:=hid r0;replace bq:=hid bq;clear b d hv hold hf rs;go_enter Tryz.func36,Tryz.ntmps36;go_upto_region 1 with(fail);rw[hW.out];go_wp2_with (refine ldX x0.out ?_);refine a.out.mono ?_;rintro e w1 ⟨v1,rfl,rz,q⟩;dsimp only at rz ⊢;obtain⟨Y,rfl,a1,a2,_⟩:=rch_x rz;have vy:=hid (wx_C a1 a2);unfold TO16 at vy;replace x0:=hid (XFa x0.out q);replace r0:=hid (XFa r0.out q);replace bq:=hid (X05 bq.out q);replace rz:=hid rz;clear q a1 a2 a hW;go_upto_region 2 with(refine stX x0.out vy.out fun w2 p=>?_)
 replace rz:=hid (X0L rz.out (XFf (J:=Jn 2 J w) p (.inr ⟨by omega,by omega⟩)));replace r0:=hid (XFh r0.out p (by omega));replace bq:=hid (p.below _ _ (Nat.le_refl _) bq.out);replace x0:=hid (XFg p vy.out);clear p;go_wp2_with (first | refine ldX x0.out ?_ | refine stX r0.out vy.out fun w3 p=>?_);exact bodyPost_ret (res1 (XFg p vy.out)) rfl ⟨_,rfl,X0Q (X0L rz.out (XFf (J:=Jn 2 J w) p (.inr ⟨by omega,by omega⟩))) (XGn _),p.below _ _ (by omega) bq.out⟩
theorem XGr(J:Nat→Prop)(v:Value)(s:St)(w:World)(hs:s.Small)(hv:RS J w v s):Calls Tryz.prog 34 #[v] w fun e w'=>∃v',e= .returned v'∧RS (fun j=>j<w.heap.size) w' v' s∧Below w.heap.size w w':=by
 obtain⟨vn,vg,vc,vp,rfl,h1,h2,h3,h4⟩:=hv;obtain⟨pn,cn,rfl⟩:=X0b h1.1;obtain⟨pg,cg,rfl⟩:=X0b h2.1;obtain⟨pc,cc,rfl⟩:=X0b h3.1;obtain⟨pp,cp,rfl⟩:=X0b h4.1;obtain⟨W,hW,x0,r0,bq,hz⟩:=wtwo (w:=w) (wx_S (X:=stgC s (.slice pn s.m.n.length cn) (.slice pg s.m.g.length cg) (.slice pc s.m.c.length cc) (.slice pp s.pend.length cp)) rfl (by kernel_rfl)) wz_S;have rn:=hid (XFG (XFz (K:=Jn 2 J w) h1 XGo) bq);have rg:=hid (XFG (XFz (K:=Jn 2 J w) h2 XGo) bq);have rc:=hid (XFG (XFz (K:=Jn 2 J w) h3 XGo) bq);have rp:=hid (XFG (XFz (K:=Jn 2 J w) h4 XGo) bq);have b1:=hs.m.n;have b2:=hs.m.g;have b3:=hs.m.c
 have b4:=hs.p;unfold TO17 at *
 unfold zeroS at hW;replace hz:w.heap.size+2≤W.heap.size:=by omega
 replace hW:=hid hW;replace x0:=hid x0;replace r0:=hid r0;replace bq:=hid bq;clear h1 h2 h3 h4 hs;go_enter Tryz.func34,Tryz.ntmps34;go_upto_region 1 with(fail);rw[hW.out];clear hW;have cx:=XFe x0.out 2 (.slice pn s.m.n.length cn) rfl;go_wp2_with fail;refine(Xqh _ s.m.n W (by omega) rn.out.1).mono ?_;rintro e w1 ⟨u,rfl,ho,q⟩;obtain⟨p0,c0,rfl⟩:=X0b (X0a ho);clear cx;have o0:=hid (Xzb (J:=fun j=>j<w.heap.size+2) ho (fun j h1 h2=>by omega));have i:w.heap.size+2≤w1.heap.size:=by have:=q.size;omega
 replace r0:=hid (XFa r0.out q);replace x0:=hid (XFa x0.out q);replace bq:=hid (X05 bq.out q);replace rg:=hid (XFG rg.out q);replace rc:=hid (XFG rc.out q);replace rp:=hid (XFG rp.out q);clear q ho rn;go_upto_region 2 with(refine stC x0.out 2 (by simp [stgC]) (Z:=(stgC s (.slice p0 s.m.n.length c0) (.slice pg s.m.g.length cg) (.slice pc s.m.c.length cc) (.slice pp s.pend.length cp))) (by kernel_rfl) rfl fun w2 p=>?_);have a:w.heap.size+2≤w2.heap.size:=by have:=p.size;omega
 replace x0:=hid (show Bx Tryz.prog w2 w.heap.size (stgC s (.slice p0 s.m.n.length c0) (.slice pg s.m.g.length cg) (.slice pc s.m.c.length cc) (.slice pp s.pend.length cp)) 48 from XFg p (wx_S rfl (by kernel_rfl)));replace r0:=hid (XFh r0.out p (by omega));replace bq:=hid (p.below _ _ (Nat.le_refl _) bq.out);replace rg:=hid (X4o rg.out (XFf (J:=Jn 2 J w) p (.inr ⟨by omega,by omega⟩)));replace rc:=hid (X4o rc.out (XFf (J:=Jn 2 J w) p (.inr ⟨by omega,by omega⟩)));replace rp:=hid (X4o rp.out (XFf (J:=Jn 2 J w) p (.inr ⟨by omega,by omega⟩)))
 replace o0:=hid (X4o o0.out (XFf (J:=fun j=>j<w.heap.size+2) p (by omega)));clear p i;have hz:=a;have cx:=XFe x0.out 3 (.slice pg s.m.g.length cg) rfl;go_wp2_with fail;refine(Xqh _ s.m.g w2 (by omega) rg.out.1).mono ?_;rintro e w3 ⟨u,rfl,ho,q⟩;obtain⟨p1,c1,rfl⟩:=X0b (X0a ho);clear cx;have o1:=hid (Xzb (J:=fun j=>j<w.heap.size+2) ho (fun j h1 h2=>by omega));have k:w.heap.size+2≤w3.heap.size:=by have:=q.size;omega
 replace r0:=hid (XFa r0.out q);replace x0:=hid (XFa x0.out q);replace bq:=hid (X05 bq.out q);replace rc:=hid (XFG rc.out q);replace rp:=hid (XFG rp.out q);replace o0:=hid (XFG o0.out q);clear q ho rg;go_upto_region 3 with(refine stC x0.out 3 (by simp [stgC]) (Z:=(stgC s (.slice p0 s.m.n.length c0) (.slice p1 s.m.g.length c1) (.slice pc s.m.c.length cc) (.slice pp s.pend.length cp))) (by kernel_rfl) rfl fun w4 p=>?_);have b:w.heap.size+2≤w4.heap.size:=by have:=p.size;omega
 replace x0:=hid (show Bx Tryz.prog w4 w.heap.size (stgC s (.slice p0 s.m.n.length c0) (.slice p1 s.m.g.length c1) (.slice pc s.m.c.length cc) (.slice pp s.pend.length cp)) 48 from XFg p (wx_S rfl (by kernel_rfl)));replace r0:=hid (XFh r0.out p (by omega));replace bq:=hid (p.below _ _ (Nat.le_refl _) bq.out);replace rc:=hid (X4o rc.out (XFf (J:=Jn 2 J w) p (.inr ⟨by omega,by omega⟩)));replace rp:=hid (X4o rp.out (XFf (J:=Jn 2 J w) p (.inr ⟨by omega,by omega⟩)));replace o0:=hid (X4o o0.out (XFf (J:=fun j=>j<w.heap.size+2) p (by omega)))
 replace o1:=hid (X4o o1.out (XFf (J:=fun j=>j<w.heap.size+2) p (by omega)));clear p k;clear a;have hz:=b;have cx:=XFe x0.out 8 (.slice pc s.m.c.length cc) rfl;go_wp2_with fail;refine(Xqh _ s.m.c w4 (by omega) rc.out.1).mono ?_;rintro e w5 ⟨u,rfl,ho,q⟩;obtain⟨p2,c2,rfl⟩:=X0b (X0a ho);clear cx;have o2:=hid (Xzb (J:=fun j=>j<w.heap.size+2) ho (fun j h1 h2=>by omega));have l:w.heap.size+2≤w5.heap.size:=by have:=q.size;omega
 replace r0:=hid (XFa r0.out q);replace x0:=hid (XFa x0.out q);replace bq:=hid (X05 bq.out q);replace rp:=hid (XFG rp.out q);replace o0:=hid (XFG o0.out q);replace o1:=hid (XFG o1.out q);clear q ho rc;go_upto_region 4 with(refine stC x0.out 8 (by simp [stgC]) (Z:=(stgC s (.slice p0 s.m.n.length c0) (.slice p1 s.m.g.length c1) (.slice p2 s.m.c.length c2) (.slice pp s.pend.length cp))) (by kernel_rfl) rfl fun w6 p=>?_);have d:w.heap.size+2≤w6.heap.size:=by have:=p.size;omega
 replace x0:=hid (show Bx Tryz.prog w6 w.heap.size (stgC s (.slice p0 s.m.n.length c0) (.slice p1 s.m.g.length c1) (.slice p2 s.m.c.length c2) (.slice pp s.pend.length cp)) 48 from XFg p (wx_S rfl (by kernel_rfl)));replace r0:=hid (XFh r0.out p (by omega));replace bq:=hid (p.below _ _ (Nat.le_refl _) bq.out);replace rp:=hid (X4o rp.out (XFf (J:=Jn 2 J w) p (.inr ⟨by omega,by omega⟩)));replace o0:=hid (X4o o0.out (XFf (J:=fun j=>j<w.heap.size+2) p (by omega)));replace o1:=hid (X4o o1.out (XFf (J:=fun j=>j<w.heap.size+2) p (by omega)))
 replace o2:=hid (X4o o2.out (XFf (J:=fun j=>j<w.heap.size+2) p (by omega)));clear p l;clear b;have hz:=d;have cx:=XFe x0.out 9 (.slice pp s.pend.length cp) rfl;go_wp2_with fail;refine(Xqh _ s.pend w6 (by omega) rp.out.1).mono ?_;rintro e w7 ⟨u,rfl,ho,q⟩;obtain⟨p3,c3,rfl⟩:=X0b (X0a ho);clear cx;have o3:=hid (Xzb (J:=fun j=>j<w.heap.size+2) ho (fun j h1 h2=>by omega));have o:w.heap.size+2≤w7.heap.size:=by have:=q.size;omega
 replace r0:=hid (XFa r0.out q);replace x0:=hid (XFa x0.out q);replace bq:=hid (X05 bq.out q);replace o0:=hid (XFG o0.out q);replace o1:=hid (XFG o1.out q);replace o2:=hid (XFG o2.out q);clear q ho rp;go_upto_region 5 with(refine stC x0.out 9 (by simp [stgC]) (Z:=(stgC s (.slice p0 s.m.n.length c0) (.slice p1 s.m.g.length c1) (.slice p2 s.m.c.length c2) (.slice p3 s.pend.length c3))) (by kernel_rfl) rfl fun w8 p=>?_);have f:w.heap.size+2≤w8.heap.size:=by have:=p.size;omega
 replace x0:=hid (show Bx Tryz.prog w8 w.heap.size (stgC s (.slice p0 s.m.n.length c0) (.slice p1 s.m.g.length c1) (.slice p2 s.m.c.length c2) (.slice p3 s.pend.length c3)) 48 from XFg p (wx_S rfl (by kernel_rfl)));replace r0:=hid (XFh r0.out p (by omega));replace bq:=hid (p.below _ _ (Nat.le_refl _) bq.out);replace o0:=hid (X4o o0.out (XFf (J:=fun j=>j<w.heap.size+2) p (by omega)));replace o1:=hid (X4o o1.out (XFf (J:=fun j=>j<w.heap.size+2) p (by omega)));replace o2:=hid (X4o o2.out (XFf (J:=fun j=>j<w.heap.size+2) p (by omega)))
 replace o3:=hid (X4o o3.out (XFf (J:=fun j=>j<w.heap.size+2) p (by omega)));clear p o;clear d;have hz:=f;have v4:=hid (show Vx Tryz.prog 48 (stgC s (.slice p0 s.m.n.length c0) (.slice p1 s.m.g.length c1) (.slice p2 s.m.c.length c2) (.slice p3 s.pend.length c3)) from wx_S rfl (by kernel_rfl));go_wp2_with (first | refine ldX x0.out ?_ | refine stX r0.out v4.out fun w9 p=>?_)
 exact bodyPost_ret (res1 (XFg p v4.out)) rfl ⟨_,rfl,X3s (J:=fun j=>j<w.heap.size+2) (X3f ⟨_,_,_,_,rfl,o0.out,o1.out,o2.out,o3.out⟩ (XFf (J:=fun j=>j<w.heap.size+2) p (by omega))) (fun j _ h=>Nat.lt_of_lt_of_le h (by omega)),p.below _ _ (by omega) bq.out⟩
theorem XGa:NewC17:=by
 intro J k w hk;have r0:=hid (XFb wz_S w);have bq:=hid (X04 w (.cells zeroS TO17));obtain⟨W,hW⟩: ∃W,w.alloc (.cells zeroS TO17)=W:=⟨_,rfl⟩;rw[hW] at r0 bq;have hn:=Xjh k W hk;unfold zeroS TO17 at hW;unfold TO17 at r0;have hz:=X1h r0.out.blk;replace hW:=hid hW;replace hn:=hid hn;go_enter Tryz.func22,Tryz.ntmps22;go_upto_region 1 with(fail);rw[hW.out];go_wp2_with fail;refine hn.out.mono ?_;rintro e w1 ⟨v1,rfl,hr,q⟩;obtain⟨M,rfl,m9,m1,_⟩:=rmo_x (XGl (J:=fun _=>False) (w':=w1) hr);have vn:=hid (wx_12 (p:=none) (n:=0) (c:=0) (e:=false) (h:=false) m9 m1);unfold TO17 at vn
 replace r0:=hid (XFa r0.out q);replace bq:=hid (X05 bq.out q);replace hr:=hid hr;clear hn hW;go_wp2_with (first | refine opX (XGk m9 w1) ?_ | refine stX r0.out vn.out fun w2 p=>?_);exact bodyPost_ret (res1 (XFg p vn.out)) rfl ⟨_,rfl,rs_mk false false (XGl hr.out) (XFD _ _),p.below _ _ (Nat.le_refl _) bq.out⟩
theorem XG7:SaneC17:=by
 intro J v s w hT hs hv;have k:=fun V W t h=>XdB V s.m W t hs.m h;have j:=fun V W t h=>XdG V s.m W t hs.m h;rw[Stg.XG5];obtain⟨A,hA⟩: ∃A,Mch.saneM s.m=A:=⟨_,rfl⟩;rw[hA] at k ⊢;have y:=Mch.Xty s.m;obtain⟨C,hC⟩: ∃C,Mch.costM s.m=C:=⟨_,rfl⟩;rw[hC] at j y ⊢;clear hA hC;obtain⟨X,rfl,r,u⟩:=rs_x hv;obtain⟨M,pp,cp,x,m9,m1,_,hM,_⟩:=XGj hv;obtain⟨h9,g,i,_,f⟩:=XGg (M:=M) (a:= .slice pp s.pend.length cp) (b:= .bool s.ended) (c:= .bool s.shut) m9;rw[←x] at h9 g i f;have D:=hs.p;obtain⟨en,z⟩: ∃b,s.ended=b:=⟨_,rfl⟩;obtain⟨sh,B⟩: ∃b,s.shut=b:=⟨_,rfl⟩;obtain⟨n,hP⟩: ∃P,s.pend.length=P:=⟨_,rfl⟩;rw[z] at g ⊢
 rw[B] at i ⊢;rw[hP] at h9 D ⊢;clear z B hP x;have vm:=hid (wx_M m9 m1);have x0:=hid (XFb (wx_S r u) w);have bq:=hid (X04 w (.cells X TO17));have rm:=hid (X0d (XFr hM) bq.out);have d:=hid (tabs_next hT bq.out);unfold TO17 at *
 unfold TO15 at *
 obtain⟨W,hW⟩: ∃W,w.alloc (.cells X 48)=W:=⟨_,rfl⟩;rw[hW] at x0 bq rm d;have kc:=hid (fun(W:World) (h:Bx Tryz.prog W w.heap.size X 48)=>(⟨XFe h 9 _ h9,XFe h 10 _ g,XFe h 11 _ i⟩:W.cell? ⟨w.heap.size,9,none⟩=some (.slice pp n cp)∧W.cell? ⟨w.heap.size,10,none⟩=some (.bool en)∧W.cell? ⟨w.heap.size,11,none⟩=some (.bool sh)));replace hW:=hid hW;replace f:=hid f;replace k:=hid k;replace j:=hid j;clear r u hv m9 m1 hM h9 g i hs hT;obtain⟨R,hR⟩: ∃R,(A && decide (n≤256) && (!en || decide (C=0)) && (!sh || (en && decide (n=0))))=R:=⟨_,rfl⟩;rw[hR];replace hR:=hid hR;go_enter Tryz.func17,Tryz.ntmps17
 go_upto_region 1 with(fail);rw[hW.out];go_wp2_with (refine ldM x0.out 0 vm.out f.out ?_);refine(k.out _ W d.out rm.out).mono ?_;rintro e w1 ⟨rfl,q⟩;replace x0:=hid (XFa x0.out q);replace bq:=hid (X05 bq.out q);replace rm:=hid (X0d rm.out q);replace d:=hid (tabs_next d.out q);clear q hW;obtain⟨c9,l,o⟩:=kc.out w1 x0.out;rcases A with _ | _
 ·skip;go_wp2_with fail;go_ret;exact⟨by rw[←hR.out];simp,bq.out⟩
 ·by_cases h:n≤256
  ·have h1:(n:Int)≤256:=by omega
   have h2:decide (n≤256)=true:=decide_eq_true h;rw[h2] at hR;clear h2 h;rcases en with _ | _
   ·rcases sh with _ | _
    ·skip;go_wp2_with fail;go_ret;exact⟨by rw[←hR.out];simp,bq.out⟩
    ·skip;go_wp2_with fail;go_ret;exact⟨by rw[←hR.out];simp,bq.out⟩
   ·go_wp2_with (refine ldM x0.out 0 vm.out f.out ?_);refine(j.out _ w1 d.out rm.out).mono ?_;rintro e w2 ⟨rfl,q⟩;replace x0:=hid (XFa x0.out q);replace bq:=hid (X05 bq.out q);clear c9 l o q rm d;obtain⟨c9,l,o⟩:=kc.out w2 x0.out;by_cases h0:C=0
    ·have g1:((C:Int) == 0)=true:=by rw[h0];rfl
     have g2:decide (C=0)=true:=decide_eq_true h0;have g3:(C:Int)=0:=by omega
     rw[g2] at hR;clear g2 h0;rcases sh with _ | _
     ·skip;go_wp2_with fail;go_ret;exact⟨by rw[←hR.out];simp,bq.out⟩
     ·by_cases hn:n=0
      ·subst hn;skip;go_wp2_with fail;go_ret;exact⟨by rw[←hR.out];simp,bq.out⟩
      ·have g4: ¬(n:Int)=0:=by omega
       have g5:((n:Int) == 0)=false:=beq_eq_false_iff_ne.2 g4;have g6:decide (n=0)=false:=decide_eq_false hn;rw[g6] at hR;go_wp2_with fail;go_ret;exact⟨by rw[←hR.out];simp,bq.out⟩
    ·have g3: ¬(C:Int)=0:=by omega
     have g1:((C:Int) == 0)=false:=beq_eq_false_iff_ne.2 g3;have g2:decide (C=0)=false:=decide_eq_false h0;rw[g2] at hR;go_wp2_with fail;go_ret;exact⟨by rw[←hR.out];simp,bq.out⟩
  ·have h1: ¬(n:Int)≤256:=by omega
   have h2:decide (n≤256)=false:=decide_eq_false h;rw[h2] at hR;go_wp2_with fail;go_ret;exact⟨by rw[←hR.out];simp,bq.out⟩
theorem XGv(J:Nat→Prop)(v:Value)(s:St)(w:World)(hT:Tabs w)(hs:s.Small)(hv:RS J w v s):Calls Tryz.prog 35 #[v] w fun e w'=>∃v',e= .returned v'∧RS J w' v' (Stg.asS s)∧Below w.heap.size w w':=by
 have d:=fun V W t h=>XG7 (Jn 2 J w) V s W t hs h;unfold Stg.asS;obtain⟨B,hB⟩: ∃B,Stg.saneS s=B:=⟨_,rfl⟩;rw[hB] at d ⊢;obtain⟨X,rfl,b,c⟩:=rs_x hv;obtain⟨h0,_⟩:=XFp hv;have vx:=hid (wx_S b c);obtain⟨W,hW,x0,r0,bq,hz⟩:=wtwo (w:=w) (wx_S b c) wz_S;have rs:=hid (X08 (XFC (K:=Jn 2 J w) hv XGo) bq);have a:=hid (d _ W (tabs_next hT bq) rs.out);have hk:=hs.k;unfold TO17 at *
 unfold zeroS at hW;replace hW:=hid hW;replace x0:=hid x0;replace r0:=hid r0;replace bq:=hid bq;replace hk:=hid hk;replace h0:=hid h0;clear b c hv hT hB hs d;go_enter Tryz.func35,Tryz.ntmps35;go_upto_region 1 with(fail);rw[hW.out];go_wp2_with (refine ldX x0.out ?_);refine a.out.mono ?_;rintro e w1 ⟨rfl,q⟩;replace x0:=hid (XFa x0.out q);replace r0:=hid (XFa r0.out q);replace bq:=hid (X05 bq.out q);replace rs:=hid (X08 rs.out q);have f:=q.size;clear q hW a;rcases B with _ | _
 ·have c0:=XFe x0.out 0 _ h0.out;go_wp2_with fail;refine(XGa (Jn 2 J w) s.m.kind w1 hk.out).mono ?_;rintro e w2 ⟨v2,rfl,rk,q⟩;obtain⟨X2,rfl,a1,a2⟩:=rs_x rk;have v2:=hid (wx_S a1 a2);unfold TO17 at v2;replace r0:=hid (XFa r0.out q);replace bq:=hid (X05 bq.out q);replace rk:=hid rk;clear q c0 a1 a2 rs x0;go_wp2_with (refine stX r0.out v2.out fun w3 p=>?_);exact bodyPost_ret (res1 (XFg p v2.out)) rfl ⟨_,rfl,X3s (X3f rk.out (XFf (J:=Jn 2 J w) p (.inr ⟨by omega,by omega⟩))) (XGn _),p.below _ _ (by omega) bq.out⟩
 ·go_wp2_with (first | refine ldX x0.out ?_ | refine stX r0.out vx.out fun w3 p=>?_);exact bodyPost_ret (res1 (XFg p vx.out)) rfl ⟨_,rfl,X3s (X3f rs.out (XFf (J:=Jn 2 J w) p (.inr ⟨by omega,by omega⟩))) (XGn _),p.below _ _ (by omega) bq.out⟩
theorem rest17(J:Nat→Prop)(v:Value)(s:St)(vi:Value)(i:Ch)(vo:Value)(o:Ch)(w:World)(hold:Old J w)(hv:RS J w v s)(hi:RCh J w vi i)(ho:RCh J w vo o):Calls Tryz.prog 61 #[v,vi,vo] w (XeD J (s,i,o,false) w):=by
 obtain⟨X,rfl,a,b⟩:=rs_x hv;obtain⟨Y,rfl,c,d,k,l⟩:=rch_x hi;obtain⟨Z,rfl,e,f,m,n⟩:=rch_x ho;obtain⟨W,hW,x0,x1,x2,r0,r1,r2,bq⟩:=six (w:=w) (wx_S a b) (wx_C c d) (wx_C e f) wz_S wz_C wz_C;have rt:=X08 (XFC (K:=Jx J w) hv XFB) bq;have rj:=X01 (XFA (K:=Jx J w) hi XFB) bq;have rp:=X01 (XFA (K:=Jx J w) ho XFB) bq;have vt:=wx_S a b;have vj:=wx_C c d;have vp:=wx_C e f;have hJ: ∀W',W.heap.size≤W'.heap.size→Old (Jx J w) W':=fun W' h j hj=>by
  have:=X1h r2.blk;rcases hj with hj | hj
  ·have:=hold j hj;omega
  ·omega
 have hz:=X1h r2.blk;unfold zeroS zeroC TO17 TO16 at *
 try unfold TO15 at *
 replace hW:=hid hW;replace x0:=hid x0;replace x1:=hid x1;replace x2:=hid x2;replace r0:=hid r0;replace r1:=hid r1;replace r2:=hid r2;replace bq:=hid bq;replace rt:=hid rt;replace rj:=hid rj;replace rp:=hid rp;replace vt:=hid vt;replace vj:=hid vj;replace vp:=hid vp;replace hJ:=hid hJ;replace a:=hid a;clear b c d e f hv hi ho hold k l m n;go_enter Tryz.func61,Tryz.ntmps61;go_upto_region 1 with(fail);rw[hW.out];clear hW
 refine wp_region_held_drew (S:=S3 Tryz.prog w.heap.size (w.heap.size+1) (w.heap.size+1+1) X Y Z 48 49) (by kernel_rfl) ⟨XFa x0.out (Below.refl _ _).drew,XFa x1.out (Below.refl _ _).drew,XFa x2.out (Below.refl _ _).drew⟩ (fun hS=>?_);replace r0:=hid (XFa r0.out (Below.refl _ _).drew);replace r1:=hid (XFa r1.out (Below.refl _ _).drew);replace r2:=hid (XFa r2.out (Below.refl _ _).drew);replace bq:=hid (X05 bq.out (Below.refl _ _).drew);replace rt:=hid (X08 rt.out (Below.refl _ _).drew);replace rj:=hid (X01 rj.out (Below.refl _ _).drew);replace rp:=hid (X01 rp.out (Below.refl _ _).drew)
 refine' tkL 0 rfl (fun _ h=>h.1) hS ?_;try simp only[putA]
 refine' tkL 1 rfl (fun _ h=>h.2.1) hS ?_;try simp only[putA]
 refine' tkL 2 rfl (fun _ h=>h.2.2) hS ?_;try simp only[putA]
 refine' tkS 3 rfl r0.out vt.out (fun p p0=>?_);have g:=XFE hS p0 (by omega) (by omega) (by omega);refine⟨g,?_⟩;replace hS:=g;clear g;try simp only[putA]
 have u:=XFf (J:=Jx J w) p0 (.inr ⟨by omega,by omega⟩);have s0:=hid (XFg p0 vt.out);replace r1:=hid (XFh r1.out p0 (by omega));replace r2:=hid (XFh r2.out p0 (by omega));replace rt:=hid (X3f rt.out u);replace rj:=hid (X0L rj.out u);replace rp:=hid (X0L rp.out u);replace bq:=hid (p0.below _ _ (by omega) bq.out);clear u p0;refine' tkS 4 rfl r1.out vj.out (fun q p1=>?_);have g:=XFE hS p1 (by omega) (by omega) (by omega);refine⟨g,?_⟩;replace hS:=g;clear g;try simp only[putA]
 have u:=XFf (J:=Jx J w) p1 (.inr ⟨by omega,by omega⟩);have s1:=hid (XFg p1 vj.out);replace r2:=hid (XFh r2.out p1 (by omega));replace s0:=hid (XFh s0.out p1 (by omega));replace rt:=hid (X3f rt.out u);replace rj:=hid (X0L rj.out u);replace rp:=hid (X0L rp.out u);replace bq:=hid (p1.below _ _ (by omega) bq.out);clear u p1;refine' tkS 5 rfl r2.out vp.out (fun r p2=>?_);have g:=XFE hS p2 (by omega) (by omega) (by omega);refine⟨g,?_⟩;replace hS:=g;clear g;try simp only[putA]
 have u:=XFf (J:=Jx J w) p2 (.inr ⟨by omega,by omega⟩);have s2:=hid (XFg p2 vp.out);replace s0:=hid (XFh s0.out p2 (by omega));replace s1:=hid (XFh s1.out p2 (by omega));replace rt:=hid (X3f rt.out u);replace rj:=hid (X0L rj.out u);replace rp:=hid (X0L rp.out u);replace bq:=hid (p2.below _ _ (by omega) bq.out);clear u p2;refine' tk 6 rfl hS ?_;try simp only[putA]
 refine wpAnyH_done (by kernel_rfl) ?_ _;clear hS;go_wp2_with fail;exact bodyPost_ret (res4 (v:= .bool false) s0.out s1.out s2.out) rfl ⟨_,_,_,rfl,X3s rt.out (fun _ _ h=>Or.inl h),X0Q rj.out (fun _ _ h=>Or.inl h),X0Q rp.out (fun _ _ h=>Or.inl h),bq.out⟩
theorem XGs(J:Nat→Prop)(v:Value)(s:St)(vi:Value)(i:Ch)(vo:Value)(o:Ch)(w:World)(hold:Old J w)(hfo:o.Few)(hv:RS J w v s)(hi:RCh J w vi i)(ho:RCh J w vo o):Calls Tryz.prog 63 #[v,vi,vo] w (XeD J (⟨s.m,s.pend,s.ended,true⟩,i,Stg.X1y o,true) w):=by
 obtain⟨X,rfl,k,f⟩:=rs_x hv;obtain⟨M,pp,cp,l,m9,m1,_,hM,d⟩:=XGj hv;obtain⟨Y,rfl,y,z,E,F⟩:=rch_x hi;obtain⟨Z,rfl,A,B,G,H⟩:=rch_x ho;obtain⟨W,hW,x0,x1,x2,r0,r1,r2,bq⟩:=six (w:=w) (wx_S k f) (wx_C y z) (wx_C A B) wz_S wz_C wz_C;have rt:=X08 (XFC (K:=Jx J w) hv XFB) bq;have rj:=X01 (XFA (K:=Jx J w) hi XFB) bq;have rp:=X01 (XFA (K:=Jx J w) ho XFB) bq;have vt:=wx_S k f;have vj:=wx_C y z;have vp:=wx_C A B;have hJ: ∀W',W.heap.size≤W'.heap.size→Old (Jx J w) W':=fun W' h j hj=>by
  have:=X1h r2.blk;rcases hj with hj | hj
  ·have:=hold j hj;omega
  ·omega
 replace hM:=XFn (XGm (K:=Jx J w) hM XFB) bq;replace d:=XFG (XFz (K:=Jx J w) d XFB) bq;obtain⟨h9,r,t,_,x⟩:=XGg (M:=M) (a:= .slice pp s.pend.length cp) (b:= .bool s.ended) (c:= .bool s.shut) m9;rw[←l] at h9 r t x;have vm:=wx_M m9 m1;have hz:=X1h r2.blk;unfold zeroS zeroC TO17 TO16 at *
 try unfold TO15 at *
 replace hW:=hid hW;replace x0:=hid x0;replace x1:=hid x1;replace x2:=hid x2;replace r0:=hid r0;replace r1:=hid r1;replace r2:=hid r2;replace bq:=hid bq;replace rt:=hid rt;replace rj:=hid rj;replace rp:=hid rp;replace vt:=hid vt;replace vj:=hid vj;replace vp:=hid vp;replace hJ:=hid hJ;replace k:=hid k;replace hM:=hid hM;replace d:=hid d;replace h9:=hid h9;replace r:=hid r;replace t:=hid t;replace x:=hid x;replace vm:=hid vm;replace l:=hid l;replace m9:=hid m9;replace m1:=hid m1;clear f y z A B hv hi ho hold E F G H;go_enter Tryz.func63,Tryz.ntmps63;go_upto_region 1 with(fail);rw[hW.out]
 clear hW;obtain⟨X2,f⟩: ∃X2,M++ #[.slice pp s.pend.length cp, .bool s.ended, .bool true]=X2:=⟨_,rfl⟩;have v2:=wx_12 (p:=pp) (n:=s.pend.length) (c:=cp) (e:=s.ended) (h:=true) m9.out m1.out;unfold TO17 at v2;have D:X.setIfInBounds 11 (.bool true)=X2:=by rw[l.out,(XGf m9.out _).2.2,f]
 rw[f] at v2;replace v2:=hid v2;replace f:=hid f;have hl:11<X.size:=by rw[k.out];decide
 go_upto_region 2 with(refine stC x0.out 11 hl D rfl fun w1 p=>?_);have u:=XFf (J:=Jx J w) p (.inr ⟨by omega,by omega⟩);replace x0:=hid (XFg p v2.out);replace x1:=hid (XFh x1.out p (by omega));replace x2:=hid (XFh x2.out p (by omega));replace r0:=hid (XFh r0.out p (by omega));replace r1:=hid (XFh r1.out p (by omega));replace r2:=hid (XFh r2.out p (by omega));replace rj:=hid (X0L rj.out u);replace rp:=hid (X0L rp.out u);clear rt;have rt:=rs_mk (e:=s.ended) (h:=true) (XFm hM.out u) (X4o d.out u);rw[f.out] at rt;replace rt:=hid rt;replace bq:=hid (p.below _ _ (Nat.le_refl _) bq.out)
 have I:=p.size;clear u p hM d h9 r t x vm l m9 m1 D hl vt k;refine wp_region_held_drew (S:=S3 Tryz.prog w.heap.size (w.heap.size+1) (w.heap.size+1+1) X2 Y Z 48 49) (by kernel_rfl) ⟨XFa x0.out (Below.refl _ _).drew,XFa x1.out (Below.refl _ _).drew,XFa x2.out (Below.refl _ _).drew⟩ (fun hS=>?_);replace r0:=hid (XFa r0.out (Below.refl _ _).drew);replace r1:=hid (XFa r1.out (Below.refl _ _).drew);replace r2:=hid (XFa r2.out (Below.refl _ _).drew);replace bq:=hid (X05 bq.out (Below.refl _ _).drew);replace rt:=hid (X08 rt.out (Below.refl _ _).drew);replace rj:=hid (X01 rj.out (Below.refl _ _).drew)
 replace rp:=hid (X01 rp.out (Below.refl _ _).drew);refine' tkL 0 rfl (fun _ h=>h.1) hS ?_;try simp only[putA]
 refine' tkL 1 rfl (fun _ h=>h.2.1) hS ?_;try simp only[putA]
 refine' tkL 2 rfl (fun _ h=>h.2.2) hS ?_;try simp only[putA]
 refine rdy 3 rfl fun K hK=>?_;go_simp;go_at_call 24;refine(X7L (Jx J w) _ o w1.drew (hJ.out _ (Nat.le_of_eq I.symm)) hfo rp.out).mono ?_;rintro e w7 ⟨vc,rfl,C,q⟩;obtain⟨Z7,rfl,g1,g2,_⟩:=rch_x C;have z7:=wx_C g1 g2;unfold TO16 at z7;replace z7:=hid z7;clear rp;have rp:=hid C;go_wp2_with fail;refine hK.out _ _ (XFF hS q) (fun hSn=>?_);clear hK K hS;have hS:=hSn;clear hSn;try simp only[putA]
 replace r0:=hid (XFa r0.out q);replace r1:=hid (XFa r1.out q);replace r2:=hid (XFa r2.out q);replace bq:=hid (X05 bq.out q);replace rj:=hid (X01 rj.out q);replace rt:=hid (X08 rt.out q);have L:=q.size;clear q C g1 g2;refine' tkS 4 rfl r0.out v2.out (fun N p0=>?_);have g:=XFE hS p0 (by omega) (by omega) (by omega);refine⟨g,?_⟩;replace hS:=g;clear g;try simp only[putA]
 have u:=XFf (J:=Jx J w) p0 (.inr ⟨by omega,by omega⟩);have s0:=hid (XFg p0 v2.out);replace r1:=hid (XFh r1.out p0 (by omega));replace r2:=hid (XFh r2.out p0 (by omega));replace rt:=hid (X3f rt.out u);replace rj:=hid (X0L rj.out u);replace rp:=hid (X0L rp.out u);replace bq:=hid (p0.below _ _ (by omega) bq.out);clear u p0;refine' tkS 5 rfl r1.out vj.out (fun O p1=>?_);have g:=XFE hS p1 (by omega) (by omega) (by omega);refine⟨g,?_⟩;replace hS:=g;clear g;try simp only[putA]
 have u:=XFf (J:=Jx J w) p1 (.inr ⟨by omega,by omega⟩);have s1:=hid (XFg p1 vj.out);replace r2:=hid (XFh r2.out p1 (by omega));replace s0:=hid (XFh s0.out p1 (by omega));replace rt:=hid (X3f rt.out u);replace rj:=hid (X0L rj.out u);replace rp:=hid (X0L rp.out u);replace bq:=hid (p1.below _ _ (by omega) bq.out);clear u p1;refine' tkS 6 rfl r2.out z7.out (fun P p2=>?_);have g:=XFE hS p2 (by omega) (by omega) (by omega);refine⟨g,?_⟩;replace hS:=g;clear g;try simp only[putA]
 have u:=XFf (J:=Jx J w) p2 (.inr ⟨by omega,by omega⟩);have s2:=hid (XFg p2 z7.out);replace s0:=hid (XFh s0.out p2 (by omega));replace s1:=hid (XFh s1.out p2 (by omega));replace rt:=hid (X3f rt.out u);replace rj:=hid (X0L rj.out u);replace rp:=hid (X0L rp.out u);replace bq:=hid (p2.below _ _ (by omega) bq.out);clear u p2;refine' tk 7 rfl hS ?_;try simp only[putA]
 refine wpAnyH_done (by kernel_rfl) ?_ _;clear hS;go_wp2_with fail;exact bodyPost_ret (res4 (v:= .bool true) s0.out s1.out s2.out) rfl ⟨_,_,_,rfl,X3s rt.out (fun _ _ h=>Or.inl h),X0Q rj.out (fun _ _ h=>Or.inl h),X0Q rp.out (fun _ _ h=>Or.inl h),bq.out⟩
theorem put17(J:Nat→Prop)(v:Value)(s:St)(vi:Value)(i:Ch)(vo:Value)(o:Ch)(w:World)(hold:Old J w)(hpe:s.pend≠ [])(hs:s.Small)(hfo:o.Few)(hv:RS J w v s)(hi:RCh J w vi i)(ho:RCh J w vo o):
 Calls Tryz.prog 62 #[v,vi,vo] w (XeD J (if (Stg.putC o (s.pend.take 8)).2=true then (⟨s.m,s.pend.drop 8,s.ended,s.shut⟩,i,(Stg.putC o (s.pend.take 8)).1,true) else (s,i,(Stg.putC o (s.pend.take 8)).1,false)) w):=by
 have a9:0<s.pend.length:=List.length_pos_iff.2 hpe;have an:=hs.p;obtain⟨NK,a5⟩: ∃NK:Nat,NK=min s.pend.length 8:=⟨_,rfl⟩;have P:NK≤s.pend.length:=by omega
 have a8:min (s.pend.length:Int) 8=(NK:Int):=by omega
 have ab:s.pend.take 8=s.pend.take NK:=by
  rcases Nat.le_total s.pend.length 8 with h | h
  ·rw[List.take_of_length_le h,List.take_of_length_le (by omega)]
  ·rw[show NK=8 by omega]
 have a7:s.pend.drop 8=s.pend.drop NK:=by
  rcases Nat.le_total s.pend.length 8 with h | h
  ·rw[List.drop_of_length_le h,List.drop_of_length_le (by omega)]
  ·rw[show NK=8 by omega]
 rw[ab,a7];obtain⟨D,hD⟩: ∃D,s.pend.drop NK=D:=⟨_,rfl⟩;rw[hD];replace hD:=hid hD;have t: ∀ (K:Nat→Prop) (VZ VB:Value) (W:World),Old K W→RCh K W VZ o→RIo K W VB (s.pend.take NK)→Calls Tryz.prog 25 #[VZ,VB] W (X9i K (Stg.putC o (s.pend.take NK)) W):=fun K VZ VB W h1 h2 h3=>XeT K VZ o VB (s.pend.take NK) W h1 hfo (by rw[List.length_take];omega) h2 h3;obtain⟨⟨o2,ok⟩,hq⟩: ∃q,Stg.putC o (s.pend.take NK)=q:=⟨_,rfl⟩;rw[hq] at t ⊢;dsimp only
 obtain⟨q0,G⟩: ∃q,(if ok=true then ((⟨s.m,D,s.ended,s.shut⟩:St),i,o2,true) else (s,i,o2,false))=q:=⟨_,rfl⟩;rw[G];replace G:=hid G;replace t:=hid t;clear hq ab a7 hs hpe a5;obtain⟨X,rfl,C,E⟩:=rs_x hv;obtain⟨M,pp,cp,I,m9,m1,_,hM,f⟩:=XGj hv;obtain⟨Y,rfl,R,T,ad,ae⟩:=rch_x hi;obtain⟨Z,rfl,U,V,af,ag⟩:=rch_x ho;obtain⟨W,hW,x0,x1,x2,r0,r1,r2,bq⟩:=six (w:=w) (wx_S C E) (wx_C R T) (wx_C U V) wz_S wz_C wz_C;have rt:=X08 (XFC (K:=Jx J w) hv XFB) bq;have rj:=X01 (XFA (K:=Jx J w) hi XFB) bq;have rp:=X01 (XFA (K:=Jx J w) ho XFB) bq;have vt:=wx_S C E;have vj:=wx_C R T;have vp:=wx_C U V
 have hJ: ∀W',W.heap.size≤W'.heap.size→Old (Jx J w) W':=fun W' h j hj=>by
  have:=X1h r2.blk;rcases hj with hj | hj
  ·have:=hold j hj;omega
  ·omega
 replace hM:=XFn (XGm (K:=Jx J w) hM XFB) bq;replace f:=XFG (XFz (K:=Jx J w) f XFB) bq;obtain⟨h9,L,N,_,O⟩:=XGg (M:=M) (a:= .slice pp s.pend.length cp) (b:= .bool s.ended) (c:= .bool s.shut) m9;rw[←I] at h9 L N O;have vm:=wx_M m9 m1;have hz:=X1h r2.blk;unfold zeroS zeroC TO17 TO16 at *
 try unfold TO15 at *
 replace hW:=hid hW;replace x0:=hid x0;replace x1:=hid x1;replace x2:=hid x2;replace r0:=hid r0;replace r1:=hid r1;replace r2:=hid r2;replace bq:=hid bq;replace rt:=hid rt;replace rj:=hid rj;replace rp:=hid rp;replace vt:=hid vt;replace vj:=hid vj;replace vp:=hid vp;replace hJ:=hid hJ;replace C:=hid C;replace hM:=hid hM;replace f:=hid f;replace h9:=hid h9;replace L:=hid L;replace N:=hid N;replace O:=hid O;replace vm:=hid vm;replace I:=hid I;replace m9:=hid m9;replace m1:=hid m1;clear E R T U V hv hi ho hold ad ae af ag;go_enter Tryz.func62,Tryz.ntmps62;go_upto_region 1 with(fail);rw[hW.out]
 clear hW;obtain⟨pb,po,rfl,am,_⟩:=ri_at f.out.1 a9;have a6:=(Xfw f.out.1).2.1;have c9:=XFe x0.out 9 _ h9.out;go_upto_region 2 with(fail);clear c9 a8;replace x0:=hid (XFa x0.out (Below.refl _ _).drew);replace x1:=hid (XFa x1.out (Below.refl _ _).drew);replace r0:=hid (XFa r0.out (Below.refl _ _).drew);replace r1:=hid (XFa r1.out (Below.refl _ _).drew);replace r2:=hid (XFa r2.out (Below.refl _ _).drew);replace bq:=hid (X05 bq.out (Below.refl _ _).drew);replace rj:=hid (X01 rj.out (Below.refl _ _).drew);replace rt:=hid (X08 rt.out (Below.refl _ _).drew)
 replace hM:=hid (XFn hM.out (Below.refl _ _).drew);replace f:=hid (XFG f.out (Below.refl _ _).drew);replace x2:=hid (XFa x2.out (Below.refl _ _).drew);replace rp:=hid (X01 rp.out (Below.refl _ _).drew)
 refine RgA.XGu (S:=fun _=>True) (J0:=fun _=>False) (X:= [0,1,2,3,4,5,6,7]) (Y:= [8]) (A:= []) (F:=fun fk KJ v wz=>match fk with | 0=>v= .agg Z | 1=>v= .pointer (some ⟨w.heap.size,9,none⟩) | 2=>v= .slice (some ⟨pb,po,none⟩) s.pend.length cp | 3=>v= .int .i64 NK | 4=>v= .slice (some ⟨pb,po,none⟩) NK cp | 5=>FB (Jx J w) (o2,ok) v wz | 6=>FB (Jx J w) (o2,ok) v wz | 7=>RCh (Jx J w) wz v o2 | 8=>v= .bool ok | _=>True) _ (fun _ _=>trivial) (by kernel_rfl) (by kernel_rfl) (by kernel_rfl) (by decide) (fun c a d v wz h=>by cases d <;> exact h) (fun _ h=>h.elim) ?stable ?fresh ?self ?step ?pure ?fin
 case stable=>
  intro k KJ v wz ap h hb
  match k,h with
  | 0,h=>exact h
  | 1,h=>exact h
  | 2,h=>exact h
  | 3,h=>exact h
  | 4,h=>exact h
  | 5,h=>exact XGt h hb
  | 6,h=>exact XGt h hb
  | 7,h=>exact X01 h hb
  | 8,h=>exact h
  | _+9,h=>trivial
 case fresh=>
  intro k KJ v wz p h hp
  match k,h with
  | 0,h=>exact h
  | 1,h=>exact h
  | 2,h=>exact h
  | 3,h=>exact h
  | 4,h=>exact h
  | 5,h=>exact h
  | 6,h=>exact h
  | 7,h=>exact h
  | 8,h=>exact h
  | _+9,h=>trivial
 case self=>
  intro k hk;simp at hk
 case step=>
  simp only[List.cons_append,List.nil_append];refine RgA.Steps.cons (o:=⟨_,_,_,_,_,_⟩) rfl ?_ (RgA.Steps.cons (o:=⟨_,_,_,_,_,_⟩) rfl ?_ (RgA.Steps.cons (o:=⟨_,_,_,_,_,_⟩) rfl ?_ (RgA.Steps.cons (o:=⟨_,_,_,_,_,_⟩) rfl ?_ (RgA.Steps.cons (o:=⟨_,_,_,_,_,_⟩) rfl ?_ (RgA.Steps.cons (o:=⟨_,_,_,_,_,_⟩) rfl ?_ (RgA.Steps.cons (o:=⟨_,_,_,_,_,_⟩) rfl ?_ (RgA.Steps.cons (o:=⟨_,_,_,_,_,_⟩) rfl ?_ (RgA.Steps.cons (o:=⟨_,_,_,_,_,_⟩) rfl ?_ RgA.Steps.nil))))))))
  ·intro y wz KJ z x r hd K' hK;rw[RgA.X0q _ lqb081 (by kernel_rfl)] at hK ⊢;simp only[lqb081,RgA.mkE] at hK ⊢;refine atL (XFa x2.out r) ?_;have H:=hK.out (.agg Z) wz (rfl) (Below.refl _ _) (fun h=>by simp at h);simp only[Act.put,putA] at H;exact H
  ·intro y wz KJ z x r hd K' hK;rw[RgA.X0q _ lqb081 (by kernel_rfl)] at hK ⊢;simp only[lqb081,RgA.mkE] at hK ⊢;go_simp;have H:=hK.out (.pointer (some ⟨w.heap.size,9,none⟩)) wz (rfl) (Below.refl _ _) (fun h=>by simp at h);simp only[Act.put,putA] at H;exact H
  ·intro y wz KJ z x r hd K' hK;have d1:(y 1)= .pointer (some ⟨w.heap.size,9,none⟩):=hd 1 (by kernel_rfl);rw[RgA.X0q _ lqb081 (by kernel_rfl)] at hK ⊢;simp only[lqb081,RgA.mkE] at hK ⊢;rw[d1] at hK ⊢;have cx:=XFe (XFa x0.out r) 9 _ h9.out;go_simp;have H:=hK.out (.slice (some ⟨pb,po,none⟩) s.pend.length cp) wz (rfl) (Below.refl _ _) (fun h=>by simp at h);simp only[Act.put,putA] at H;exact H
  ·intro y wz KJ z x r hd K' hK;rw[RgA.X0q _ lqb081 (by kernel_rfl)] at hK ⊢;simp only[lqb081,RgA.mkE] at hK ⊢;go_simp;have H:=hK.out (.int .i64 NK) wz (rfl) (Below.refl _ _) (fun h=>by simp at h);simp only[Act.put,putA] at H;exact H
  ·intro y wz KJ z x r hd K' hK;have d2:(y 2)= .slice (some ⟨pb,po,none⟩) s.pend.length cp:=hd 2 (by kernel_rfl);have d3:(y 3)= .int .i64 NK:=hd 3 (by kernel_rfl);rw[RgA.X0q _ lqb081 (by kernel_rfl)] at hK ⊢;simp only[lqb081,RgA.mkE] at hK ⊢;rw[d2,d3] at hK ⊢;refine atO (XFJ P a6 wz) ?_;have H:=hK.out (.slice (some ⟨pb,po,none⟩) NK cp) wz (rfl) (Below.refl _ _) (fun h=>by simp at h);simp only[Act.put,putA] at H;exact H
  ·intro y wz KJ z x r hd K' hK;have d0:(y 0)= .agg Z:=hd 0 (by kernel_rfl);have d4:(y 4)= .slice (some ⟨pb,po,none⟩) NK cp:=hd 4 (by kernel_rfl);rw[RgA.X0q _ lqb081 (by kernel_rfl)] at hK ⊢;simp only[lqb081,RgA.mkE] at hK ⊢;rw[d0,d4] at hK ⊢;go_simp;refine(t.out (Jx J w) _ _ wz (hJ.out _ r.size) (X01 rp.out r) (XFK (XFG f.out r) NK P)).mono ?_;rintro e w1 ⟨v1,rfl,rz,q⟩;go_wp2_with fail;have H:=hK.out (.tuple #[v1, .bool ok]) w1 (⟨v1,rfl,rz⟩) (q) (fun h=>by simp at h);simp only[Act.put,putA] at H;exact H
  ·intro y wz KJ z x r hd K' hK;have d5:FB (Jx J w) (o2,ok) (y 5) wz:=hd 5 (by kernel_rfl);rw[RgA.X0q _ lqb081 (by kernel_rfl)] at hK ⊢;simp only[lqb081,RgA.mkE] at hK ⊢;go_simp;have H:=hK.out (y 5) wz (d5) (Below.refl _ _) (fun h=>by simp at h);simp only[Act.put,putA] at H;exact H
  ·intro y wz KJ z x r hd K' hK;have d6:FB (Jx J w) (o2,ok) (y 6) wz:=hd 6 (by kernel_rfl);rw[RgA.X0q _ lqb081 (by kernel_rfl)] at hK ⊢;simp only[lqb081,RgA.mkE] at hK ⊢;obtain⟨vz,eP,rz⟩:=d6;try dsimp only at eP rz
   rw[eP] at hK ⊢;clear eP;go_simp;have H:=hK.out (vz) wz (rz) (Below.refl _ _) (fun h=>by simp at h);simp only[Act.put,putA] at H;exact H
  ·intro y wz KJ z x r hd K' hK;have d6:FB (Jx J w) (o2,ok) (y 6) wz:=hd 6 (by kernel_rfl);rw[RgA.X0q _ lqb081 (by kernel_rfl)] at hK ⊢;simp only[lqb081,RgA.mkE] at hK ⊢;obtain⟨vz,eP,rz⟩:=d6;try dsimp only at eP rz
   rw[eP] at hK ⊢;clear eP;go_simp;have H:=hK.out (.bool ok) wz (rfl) (Below.refl _ _) (fun h=>by simp at h);simp only[Act.put,putA] at H;exact H
 case pure=>
  refine RgA.Pures.cons rfl ?_ RgA.Pures.nil
  ·intro y wz KJ hd;have d6:FB (Jx J w) (o2,ok) (y 6) wz:=hd 6 (by kernel_rfl);obtain⟨vz,eP,rz⟩:=d6;try dsimp only at eP rz
   refine⟨.bool ok,rfl,?_⟩;rw[RgA.X0q _ lqb081 (by kernel_rfl)];simp only[lqb081,RgA.mkE];rw[eP];refine⟨by kernel_rfl,fun w'=>?_⟩;go_simp
 intro y wy l KJ _ al _ hF _;have d0:(y 0)= .agg Z:=hF 0 (by decide);have d1:(y 1)= .pointer (some ⟨w.heap.size,9,none⟩):=hF 1 (by decide);have d2:(y 2)= .slice (some ⟨pb,po,none⟩) s.pend.length cp:=hF 2 (by decide);have d3:(y 3)= .int .i64 NK:=hF 3 (by decide);have d4:(y 4)= .slice (some ⟨pb,po,none⟩) NK cp:=hF 4 (by decide);have d5:FB (Jx J w) (o2,ok) (y 5) wy:=hF 5 (by decide);have d6:FB (Jx J w) (o2,ok) (y 6) wy:=hF 6 (by decide);have d7:RCh (Jx J w) wy (y 7) o2:=hF 7 (by decide);have d8:(y 8)= .bool ok:=hF 8 (by decide);rw[RgA.X0q _ lqb081 (by kernel_rfl)];simp only[lqb081,RgA.mkE]
 obtain⟨VO,e7,a1,a2,_⟩:=rch_x d7;have vo:=wx_C a1 a2;unfold TO16 at vo;replace vo:=hid vo;have ac:=hid (e7 ▸ d7);replace x0:=hid (XFa x0.out l);replace x1:=hid (XFa x1.out l);replace r0:=hid (XFa r0.out l);replace r1:=hid (XFa r1.out l);replace r2:=hid (XFa r2.out l);replace bq:=hid (X05 bq.out l);replace rj:=hid (X01 rj.out l);replace rt:=hid (X08 rt.out l);replace hM:=hid (XFn hM.out l);replace f:=hid (XFG f.out l);replace x2:=hid (XFa x2.out l);have ah:W.heap.size≤wy.heap.size:=l.size;rw[d0,d1,d2,d3,d4,e7,d8];generalize y 5=y5;generalize y 6=y6;clear d0 d1 d2 d3 d4 d5 d6 d7 d8 e7 rp a1 a2
 refine' tkS 9 rfl x2.out vo.out (fun w2 p=>?_);refine⟨trivial,?_⟩;have u:=XFf (J:=Jx J w) p (.inr ⟨by omega,by omega⟩);replace x0:=hid (XFh x0.out p (by omega));replace x1:=hid (XFh x1.out p (by omega));replace x2:=hid (XFg p vo.out);replace r0:=hid (XFh r0.out p (by omega));replace r1:=hid (XFh r1.out p (by omega));replace r2:=hid (XFh r2.out p (by omega));replace rj:=hid (X0L rj.out u);have rp:=hid (X0L ac.out u);replace rt:=hid (X3f rt.out u);replace hM:=hid (XFm hM.out u);replace f:=hid (X4o f.out u);replace bq:=hid (p.below _ _ (by omega) bq.out)
 have ao:W.heap.size≤w2.heap.size:=by have:=p.size;omega
 clear u p ac l ah;refine' tk 10 rfl trivial ?_;try simp only[putA]
 refine wpAnyH_done (by kernel_rfl) ?_ _;cases ok with
 |
  true=>
  have a0:q0=(⟨s.m,D,s.ended,s.shut⟩,i,o2,true):=by rw[←G.out];rfl
  subst a0;obtain⟨p3,c3,a3,B⟩:=XFI f.out P a9;rw[hD.out] at a3 B;obtain⟨X2,E⟩: ∃X2,M++ #[.slice p3 D.length c3, .bool s.ended, .bool s.shut]=X2:=⟨_,rfl⟩;have v2:=wx_12 (p:=p3) (n:=D.length) (c:=c3) (e:=s.ended) (h:=s.shut) m9.out m1.out;unfold TO17 at v2;have aa:X.setIfInBounds 9 (.slice p3 D.length c3)=X2:=by rw[I.out,(XGf m9.out _).1,E]
  have hl:9<X.size:=by rw[C.out];decide
  have a4:=rs_mk (e:=s.ended) (h:=s.shut) hM.out a3;rw[E] at v2 a4;replace v2:=hid v2;replace B:=hid B;have c9:=XFe x0.out 9 _ h9.out;clear E rt G;have rt:=hid a4;clear a4 a3;go_upto_region 5 with(first | refine opX (B.out _ _ _ _ _ _ _ _ _ rfl rfl) ?_ | refine stC x0.out 9 hl aa rfl fun w3 p=>?_);have u:=XFf (J:=Jx J w) p (.inr ⟨by omega,by omega⟩);replace x0:=hid (XFg p v2.out);replace x1:=hid (XFh x1.out p (by omega));replace x2:=hid (XFh x2.out p (by omega));replace r0:=hid (XFh r0.out p (by omega));replace r1:=hid (XFh r1.out p (by omega));replace r2:=hid (XFh r2.out p (by omega))
  replace rj:=hid (X0L rj.out u);replace rp:=hid (X0L rp.out u);replace rt:=hid (X3f rt.out u);replace bq:=hid (p.below _ _ (by omega) bq.out);clear u p hM f h9 L N O vm I m9 m1 aa hl vt C B c9 t;refine wp_region_held_drew (S:=S3 Tryz.prog w.heap.size (w.heap.size+1) (w.heap.size+1+1) X2 Y VO 48 49) (by kernel_rfl) ⟨XFa x0.out (Below.refl _ _).drew,XFa x1.out (Below.refl _ _).drew,XFa x2.out (Below.refl _ _).drew⟩ (fun hS=>?_);replace r0:=hid (XFa r0.out (Below.refl _ _).drew);replace r1:=hid (XFa r1.out (Below.refl _ _).drew);replace r2:=hid (XFa r2.out (Below.refl _ _).drew)
  replace bq:=hid (X05 bq.out (Below.refl _ _).drew);replace rt:=hid (X08 rt.out (Below.refl _ _).drew);replace rj:=hid (X01 rj.out (Below.refl _ _).drew);replace rp:=hid (X01 rp.out (Below.refl _ _).drew);refine' tkL 0 rfl (fun _ h=>h.1) hS ?_;try simp only[putA]
  refine' tkL 1 rfl (fun _ h=>h.2.1) hS ?_;try simp only[putA]
  refine' tkL 2 rfl (fun _ h=>h.2.2) hS ?_;try simp only[putA]
  refine' tk 3 rfl hS ?_;try simp only[putA]
  refine' tkS 4 rfl r0.out v2.out (fun ai p0=>?_);have g:=XFE hS p0 (by omega) (by omega) (by omega);refine⟨g,?_⟩;replace hS:=g;clear g;try simp only[putA]
  have u:=XFf (J:=Jx J w) p0 (.inr ⟨by omega,by omega⟩);have s0:=hid (XFg p0 v2.out);replace r1:=hid (XFh r1.out p0 (by omega));replace r2:=hid (XFh r2.out p0 (by omega));replace rt:=hid (X3f rt.out u);replace rj:=hid (X0L rj.out u);replace rp:=hid (X0L rp.out u);replace bq:=hid (p0.below _ _ (by omega) bq.out);clear u p0;refine' tkS 5 rfl r1.out vj.out (fun aj p1=>?_);have g:=XFE hS p1 (by omega) (by omega) (by omega);refine⟨g,?_⟩;replace hS:=g;clear g;try simp only[putA]
  have u:=XFf (J:=Jx J w) p1 (.inr ⟨by omega,by omega⟩);have s1:=hid (XFg p1 vj.out);replace r2:=hid (XFh r2.out p1 (by omega));replace s0:=hid (XFh s0.out p1 (by omega));replace rt:=hid (X3f rt.out u);replace rj:=hid (X0L rj.out u);replace rp:=hid (X0L rp.out u);replace bq:=hid (p1.below _ _ (by omega) bq.out);clear u p1;refine' tkS 6 rfl r2.out vo.out (fun ak p2=>?_);have g:=XFE hS p2 (by omega) (by omega) (by omega);refine⟨g,?_⟩;replace hS:=g;clear g;try simp only[putA]
  have u:=XFf (J:=Jx J w) p2 (.inr ⟨by omega,by omega⟩);have s2:=hid (XFg p2 vo.out);replace s0:=hid (XFh s0.out p2 (by omega));replace s1:=hid (XFh s1.out p2 (by omega));replace rt:=hid (X3f rt.out u);replace rj:=hid (X0L rj.out u);replace rp:=hid (X0L rp.out u);replace bq:=hid (p2.below _ _ (by omega) bq.out);clear u p2;refine' tk 7 rfl hS ?_;try simp only[putA]
  refine wpAnyH_done (by kernel_rfl) ?_ _;clear hS;go_wp2_with fail;exact bodyPost_ret (res4 (v:= .bool true) s0.out s1.out s2.out) rfl ⟨_,_,_,rfl,X3s rt.out (fun _ _ h=>Or.inl h),X0Q rj.out (fun _ _ h=>Or.inl h),X0Q rp.out (fun _ _ h=>Or.inl h),bq.out⟩
 |
  false=>
  have a0:q0=(s,i,o2,false):=by rw[←G.out];rfl
  subst a0;clear hM f h9 L N O vm I m9 m1 C G t;go_upto_region 5 with(fail);refine wp_region_held_drew (S:=S3 Tryz.prog w.heap.size (w.heap.size+1) (w.heap.size+1+1) X Y VO 48 49) (by kernel_rfl) ⟨XFa x0.out (Below.refl _ _).drew,XFa x1.out (Below.refl _ _).drew,XFa x2.out (Below.refl _ _).drew⟩ (fun hS=>?_);replace r0:=hid (XFa r0.out (Below.refl _ _).drew);replace r1:=hid (XFa r1.out (Below.refl _ _).drew);replace r2:=hid (XFa r2.out (Below.refl _ _).drew);replace bq:=hid (X05 bq.out (Below.refl _ _).drew);replace rt:=hid (X08 rt.out (Below.refl _ _).drew)
  replace rj:=hid (X01 rj.out (Below.refl _ _).drew);replace rp:=hid (X01 rp.out (Below.refl _ _).drew);refine' tkL 0 rfl (fun _ h=>h.1) hS ?_;try simp only[putA]
  refine' tkL 1 rfl (fun _ h=>h.2.1) hS ?_;try simp only[putA]
  refine' tkL 2 rfl (fun _ h=>h.2.2) hS ?_;try simp only[putA]
  refine' tk 3 rfl hS ?_;try simp only[putA]
  refine' tkS 4 rfl r0.out vt.out (fun ai p0=>?_);have g:=XFE hS p0 (by omega) (by omega) (by omega);refine⟨g,?_⟩;replace hS:=g;clear g;try simp only[putA]
  have u:=XFf (J:=Jx J w) p0 (.inr ⟨by omega,by omega⟩);have s0:=hid (XFg p0 vt.out);replace r1:=hid (XFh r1.out p0 (by omega));replace r2:=hid (XFh r2.out p0 (by omega));replace rt:=hid (X3f rt.out u);replace rj:=hid (X0L rj.out u);replace rp:=hid (X0L rp.out u);replace bq:=hid (p0.below _ _ (by omega) bq.out);clear u p0;refine' tkS 5 rfl r1.out vj.out (fun aj p1=>?_);have g:=XFE hS p1 (by omega) (by omega) (by omega);refine⟨g,?_⟩;replace hS:=g;clear g;try simp only[putA]
  have u:=XFf (J:=Jx J w) p1 (.inr ⟨by omega,by omega⟩);have s1:=hid (XFg p1 vj.out);replace r2:=hid (XFh r2.out p1 (by omega));replace s0:=hid (XFh s0.out p1 (by omega));replace rt:=hid (X3f rt.out u);replace rj:=hid (X0L rj.out u);replace rp:=hid (X0L rp.out u);replace bq:=hid (p1.below _ _ (by omega) bq.out);clear u p1;refine' tkS 6 rfl r2.out vo.out (fun ak p2=>?_);have g:=XFE hS p2 (by omega) (by omega) (by omega);refine⟨g,?_⟩;replace hS:=g;clear g;try simp only[putA]
  have u:=XFf (J:=Jx J w) p2 (.inr ⟨by omega,by omega⟩);have s2:=hid (XFg p2 vo.out);replace s0:=hid (XFh s0.out p2 (by omega));replace s1:=hid (XFh s1.out p2 (by omega));replace rt:=hid (X3f rt.out u);replace rj:=hid (X0L rj.out u);replace rp:=hid (X0L rp.out u);replace bq:=hid (p2.below _ _ (by omega) bq.out);clear u p2;refine' tk 7 rfl hS ?_;try simp only[putA]
  refine wpAnyH_done (by kernel_rfl) ?_ _;clear hS;go_wp2_with fail;exact bodyPost_ret (res4 (v:= .bool false) s0.out s1.out s2.out) rfl ⟨_,_,_,rfl,X3s rt.out (fun _ _ h=>Or.inl h),X0Q rj.out (fun _ _ h=>Or.inl h),X0Q rp.out (fun _ _ h=>Or.inl h),bq.out⟩
theorem end17(hE:EndC15)(J:Nat→Prop)(v:Value)(s:St)(vi:Value)(i:Ch)(vo:Value)(o:Ch)(w:World)(hT:Tabs w)(hold:Old J w)(hs:s.Small)(hv:RS J w v s)(hi:RCh J w vi i)(ho:RCh J w vo o):Calls Tryz.prog 65 #[v,vi,vo] w (XeD J (⟨(Mch.endM s.m).1,(Mch.endM s.m).2,true,s.shut⟩,i,o,true) w):=by
 have z:=fun V W t h=>hE V s.m W t hs.m h;obtain⟨⟨m2,l2⟩,hq⟩: ∃q,Mch.endM s.m=q:=⟨_,rfl⟩;rw[hq] at z ⊢;dsimp only
 replace z:=hid z;clear hq hs;obtain⟨X,rfl,r,E⟩:=rs_x hv;obtain⟨M,pp,cp,y,m9,m1,_,hM,d⟩:=XGj hv;obtain⟨Y,rfl,F,G,O,P⟩:=rch_x hi;obtain⟨Z,rfl,H,I,R,T⟩:=rch_x ho;obtain⟨W,hW,x0,x1,x2,r0,r1,r2,bq⟩:=six (w:=w) (wx_S r E) (wx_C F G) (wx_C H I) wz_S wz_C wz_C;have rt:=X08 (XFC (K:=Jx J w) hv XFB) bq;have rj:=X01 (XFA (K:=Jx J w) hi XFB) bq;have rp:=X01 (XFA (K:=Jx J w) ho XFB) bq;have vt:=wx_S r E;have vj:=wx_C F G;have vp:=wx_C H I;have hJ: ∀W',W.heap.size≤W'.heap.size→Old (Jx J w) W':=fun W' h j hj=>by
  have:=X1h r2.blk;rcases hj with hj | hj
  ·have:=hold j hj;omega
  ·omega
 replace hM:=XFn (XGm (K:=Jx J w) hM XFB) bq;replace d:=XFG (XFz (K:=Jx J w) d XFB) bq;obtain⟨h9,B,C,_,x⟩:=XGg (M:=M) (a:= .slice pp s.pend.length cp) (b:= .bool s.ended) (c:= .bool s.shut) m9;rw[←y] at h9 B C x;have vm:=wx_M m9 m1;have hz:=X1h r2.blk;unfold zeroS zeroC TO17 TO16 at *
 try unfold TO15 at *
 replace hW:=hid hW;replace x0:=hid x0;replace x1:=hid x1;replace x2:=hid x2;replace r0:=hid r0;replace r1:=hid r1;replace r2:=hid r2;replace bq:=hid bq;replace rt:=hid rt;replace rj:=hid rj;replace rp:=hid rp;replace vt:=hid vt;replace vj:=hid vj;replace vp:=hid vp;replace hJ:=hid hJ;replace r:=hid r;replace hM:=hid hM;replace d:=hid d;replace h9:=hid h9;replace B:=hid B;replace C:=hid C;replace x:=hid x;replace vm:=hid vm;replace y:=hid y;replace m9:=hid m9;replace m1:=hid m1;clear E F G H I hv hi ho hold O P R T;go_enter Tryz.func65,Tryz.ntmps65;go_upto_region 1 with(fail);rw[hW.out]
 clear hW;replace hT:=hid (tabs_next hT bq.out);go_wp2_with (refine ldM x0.out 0 vm.out x.out ?_);refine(z.out _ W hT.out (XFr hM.out)).mono ?_;intro e w1 D;obtain⟨va,vb,rfl,k,f,q⟩:=XFq D (hJ.out _ (Nat.le_refl _)) hM.out;dsimp only at k f;obtain⟨M7,rfl,a1,a2,_⟩:=rmo_x k;obtain⟨pb,cb,rfl⟩:=X0b f.1;have v7:=wx_M a1 a2;unfold TO15 at v7;have w7:=wx_12 (p:=pp) (n:=s.pend.length) (c:=cp) (e:=s.ended) (h:=s.shut) a1 a2;have w8:=wx_12 (p:=pb) (n:=l2.length) (c:=cb) (e:=s.ended) (h:=s.shut) a1 a2;have w9:=wx_12 (p:=pb) (n:=l2.length) (c:=cb) (e:=true) (h:=s.shut) a1 a2;unfold TO17 at w7 w8 w9
 have h7:putL X 0 M7.toList=M7++ #[.slice pp s.pend.length cp, .bool s.ended, .bool s.shut]:=by rw[y.out];exact XGe m9.out a1
 have h8:=(XGf (a:= .slice pp s.pend.length cp) (b:= .bool s.ended) (c:= .bool s.shut) a1 (.slice pb l2.length cb)).1;have l:=(XGf (a:= .slice pb l2.length cb) (b:= .bool s.ended) (c:= .bool s.shut) a1 (.bool true)).2.1;have N:0+M7.size≤X.size:=by rw[r.out,a1];decide
 have s7:=(XGg (a:= .slice pp s.pend.length cp) (b:= .bool s.ended) (c:= .bool s.shut) a1).2.2.2.1;have s8:=(XGg (a:= .slice pb l2.length cb) (b:= .bool s.ended) (c:= .bool s.shut) a1).2.2.2.1;obtain⟨X7,e7⟩: ∃X7,M7++ #[.slice pp s.pend.length cp, .bool s.ended, .bool s.shut]=X7:=⟨_,rfl⟩;obtain⟨X8,e8⟩: ∃X7,M7++ #[.slice pb l2.length cb, .bool s.ended, .bool s.shut]=X7:=⟨_,rfl⟩;obtain⟨X9,e9⟩: ∃X7,M7++ #[.slice pb l2.length cb, .bool true, .bool s.shut]=X7:=⟨_,rfl⟩;rw[e7] at w7 h7 h8 s7;rw[e8] at w8 h8 l s8;rw[e9] at w9 l;replace v7:=hid v7;replace w7:=hid w7;replace w8:=hid w8;replace w9:=hid w9
 replace h7:=hid h7;replace h8:=hid h8;replace l:=hid l;replace e9:=hid e9;replace k:=hid k;replace f:=hid f;have l8:9<X7.size:=by rw[s7];decide
 have l9:10<X8.size:=by rw[s8];decide
 replace r0:=hid (XFa r0.out q);replace r1:=hid (XFa r1.out q);replace r2:=hid (XFa r2.out q);replace bq:=hid (X05 bq.out q);replace x0:=hid (XFa x0.out q);replace x1:=hid (XFa x1.out q);replace x2:=hid (XFa x2.out q);replace rj:=hid (X01 rj.out q);replace rp:=hid (X01 rp.out q);have U:W.heap.size≤w1.heap.size:=q.size;clear q a1 a2 D hM d rt e7 e8 s7 s8 h9 B C x vm y m9 m1 r hT z vt;have K7:=hid (show ∀wa,Put w1 w.heap.size X7 48 wa→W.heap.size≤wa.heap.size∧Bx Tryz.prog wa w.heap.size X7 48 from fun wa p=>⟨by have:=p.size;omega,XFg p w7.out⟩)
 have K8:=hid (show ∀wa wb,Put wa w.heap.size X8 48 wb→Bx Tryz.prog wb w.heap.size X8 48 from fun wa wb p=>XFg p w8.out);go_upto_region 3 with(first | refine stM x0.out 0 v7.out N h7.out fun wa pa=>?_ | refine stC (K7.out _ pa).2 9 l8 h8.out rfl fun wb A=>?_ | refine stC (K8.out _ _ A) 10 l9 l.out rfl fun wc pc=>?_);have p:Put w1 w.heap.size X9 48 wc:=⟨pc.blk,X1m pa.only (X1m A.only pc.only),by rw[pc.size,A.size,pa.size],fun n w0 hn hb=>pc.below n w0 hn (A.below n w0 hn (pa.below n w0 hn hb))⟩;clear pa A pc K7 K8 w7 w8 h7 h8 l N l8 l9 v7;have u:=XFf (J:=Jx J w) p (.inr ⟨by omega,by omega⟩)
 replace x0:=hid (XFg p w9.out);replace x1:=hid (XFh x1.out p (by omega));replace x2:=hid (XFh x2.out p (by omega));replace r0:=hid (XFh r0.out p (by omega));replace r1:=hid (XFh r1.out p (by omega));replace r2:=hid (XFh r2.out p (by omega));replace rj:=hid (X0L rj.out u);replace rp:=hid (X0L rp.out u);replace k:=hid (XFm k.out u);replace f:=hid (X4o f.out u);replace bq:=hid (p.below _ _ (by omega) bq.out);have L:=rs_mk (e:=true) (h:=s.shut) k.out f.out;rw[e9.out] at L;have rt:=hid L;clear L k f e9 u p
 refine wp_region_held_drew (S:=S3 Tryz.prog w.heap.size (w.heap.size+1) (w.heap.size+1+1) X9 Y Z 48 49) (by kernel_rfl) ⟨XFa x0.out (Below.refl _ _).drew,XFa x1.out (Below.refl _ _).drew,XFa x2.out (Below.refl _ _).drew⟩ (fun hS=>?_);replace r0:=hid (XFa r0.out (Below.refl _ _).drew);replace r1:=hid (XFa r1.out (Below.refl _ _).drew);replace r2:=hid (XFa r2.out (Below.refl _ _).drew);replace bq:=hid (X05 bq.out (Below.refl _ _).drew);replace rt:=hid (X08 rt.out (Below.refl _ _).drew);replace rj:=hid (X01 rj.out (Below.refl _ _).drew);replace rp:=hid (X01 rp.out (Below.refl _ _).drew)
 refine' tkL 0 rfl (fun _ h=>h.1) hS ?_;try simp only[putA]
 refine' tkL 1 rfl (fun _ h=>h.2.1) hS ?_;try simp only[putA]
 refine' tkL 2 rfl (fun _ h=>h.2.2) hS ?_;try simp only[putA]
 refine' tkS 3 rfl r0.out w9.out (fun a0 p0=>?_);have g:=XFE hS p0 (by omega) (by omega) (by omega);refine⟨g,?_⟩;replace hS:=g;clear g;try simp only[putA]
 have u:=XFf (J:=Jx J w) p0 (.inr ⟨by omega,by omega⟩);have s0:=hid (XFg p0 w9.out);replace r1:=hid (XFh r1.out p0 (by omega));replace r2:=hid (XFh r2.out p0 (by omega));replace rt:=hid (X3f rt.out u);replace rj:=hid (X0L rj.out u);replace rp:=hid (X0L rp.out u);replace bq:=hid (p0.below _ _ (by omega) bq.out);clear u p0;refine' tkS 4 rfl r1.out vj.out (fun a3 p1=>?_);have g:=XFE hS p1 (by omega) (by omega) (by omega);refine⟨g,?_⟩;replace hS:=g;clear g;try simp only[putA]
 have u:=XFf (J:=Jx J w) p1 (.inr ⟨by omega,by omega⟩);have s1:=hid (XFg p1 vj.out);replace r2:=hid (XFh r2.out p1 (by omega));replace s0:=hid (XFh s0.out p1 (by omega));replace rt:=hid (X3f rt.out u);replace rj:=hid (X0L rj.out u);replace rp:=hid (X0L rp.out u);replace bq:=hid (p1.below _ _ (by omega) bq.out);clear u p1;refine' tkS 5 rfl r2.out vp.out (fun a4 p2=>?_);have g:=XFE hS p2 (by omega) (by omega) (by omega);refine⟨g,?_⟩;replace hS:=g;clear g;try simp only[putA]
 have u:=XFf (J:=Jx J w) p2 (.inr ⟨by omega,by omega⟩);have s2:=hid (XFg p2 vp.out);replace s0:=hid (XFh s0.out p2 (by omega));replace s1:=hid (XFh s1.out p2 (by omega));replace rt:=hid (X3f rt.out u);replace rj:=hid (X0L rj.out u);replace rp:=hid (X0L rp.out u);replace bq:=hid (p2.below _ _ (by omega) bq.out);clear u p2;refine' tk 6 rfl hS ?_;try simp only[putA]
 refine wpAnyH_done (by kernel_rfl) ?_ _;clear hS;go_wp2_with fail;exact bodyPost_ret (res4 (v:= .bool true) s0.out s1.out s2.out) rfl ⟨_,_,_,rfl,X3s rt.out (fun _ _ h=>Or.inl h),X0Q rj.out (fun _ _ h=>Or.inl h),X0Q rp.out (fun _ _ h=>Or.inl h),bq.out⟩
theorem XGB(hF:FeedC15)(J:Nat→Prop)(v:Value)(s:St)(vi:Value)(i:Ch)(vo:Value)(o:Ch)(w:World)(i2:Ch)(b:List Int)(ok:Bool)(htk:Stg.takeC i=(i2,b,ok))(hb8:b.length≤8)(af:WfI b)(hsm:Mch.saneM s.m=true)
 (hT:Tabs w) (hold:Old J w) (hfi:i.Few) (hv:RS J w v s) (hi:RCh J w vi i) (ho:RCh J w vo o):Calls Tryz.prog 64 #[v,vi,vo] w (XeD J (⟨(Mch.X0N s.m b).1,(Mch.X0N s.m b).2,s.ended,s.shut⟩,i2,o,ok) w):=by
 obtain⟨i0,aO,aQ,aR,aS⟩:=info_parts X2p;have a9:=fun J V W h1 h2=>Xaw J V i W h1 hfi h2;rw[htk] at a9;have aA:=fun k=>(Stg.Xqx s.m hsm (b.take k)).1;have a5:=fun k=>Stg.Xqy s.m hsm (b.take k) (by rw[List.length_take];omega);have a4:=fun k x V W t h hx=>hF V (Mch.X0N s.m (b.take k)).1 x W t (Mch.small_sane (aA k)) h hx;obtain⟨G,hG⟩: ∃G,Mch.X0N s.m=G:=⟨_,rfl⟩;have ac:G []=(s.m,[]):=by rw[←hG];rfl
 have ad: ∀l x,G (l++ [x])=((Mch.feedM (G l).1 x).1,(G l).2++(Mch.feedM (G l).1 x).2):=by rw[←hG];exact Mch.Xb7 _
 rw[hG] at a5 a4 ⊢;obtain⟨Q0,T⟩: ∃Q,G b=Q:=⟨_,rfl⟩;rw[T];replace T:=hid T;replace a9:=hid a9;replace a5:=hid a5;replace a4:=hid a4;replace ac:=hid ac;replace ad:=hid ad;replace af:=hid af;clear hG aA hsm htk hfi;have aI:=hid hT;obtain⟨X,rfl,U,al⟩:=rs_x hv;obtain⟨M,pp,cp,a0,m9,m1,_,hM,A⟩:=XGj hv;obtain⟨Y,rfl,am,an,aJ,aK⟩:=rch_x hi;obtain⟨Z,rfl,ao,ap,aL,aM⟩:=rch_x ho;obtain⟨W,hW,x0,x1,x2,r0,r1,r2,bq⟩:=six (w:=w) (wx_S U al) (wx_C am an) (wx_C ao ap) wz_S wz_C wz_C;have rt:=X08 (XFC (K:=Jx J w) hv XFB) bq;have rj:=X01 (XFA (K:=Jx J w) hi XFB) bq;have rp:=X01 (XFA (K:=Jx J w) ho XFB) bq
 have vt:=wx_S U al;have vj:=wx_C am an;have vp:=wx_C ao ap;have hJ: ∀W',W.heap.size≤W'.heap.size→Old (Jx J w) W':=fun W' h j hj=>by
  have:=X1h r2.blk;rcases hj with hj | hj
  ·have:=hold j hj;omega
  ·omega
 replace hM:=XFn (XGm (K:=Jx J w) hM XFB) bq;replace A:=XFG (XFz (K:=Jx J w) A XFB) bq;obtain⟨h9,aa,ab,_,C⟩:=XGg (M:=M) (a:= .slice pp s.pend.length cp) (b:= .bool s.ended) (c:= .bool s.shut) m9;rw[←a0] at h9 aa ab C;have vm:=wx_M m9 m1;have hz:=X1h r2.blk;unfold zeroS zeroC TO17 TO16 at *
 try unfold TO15 at *
 replace hW:=hid hW;replace x0:=hid x0;replace x1:=hid x1;replace x2:=hid x2;replace r0:=hid r0;replace r1:=hid r1;replace r2:=hid r2;replace bq:=hid bq;replace rt:=hid rt;replace rj:=hid rj;replace rp:=hid rp;replace vt:=hid vt;replace vj:=hid vj;replace vp:=hid vp;replace hJ:=hid hJ;replace U:=hid U;replace hM:=hid hM;replace A:=hid A;replace h9:=hid h9;replace aa:=hid aa;replace ab:=hid ab;replace C:=hid C;replace vm:=hid vm;replace a0:=hid a0;replace m9:=hid m9;replace m1:=hid m1;clear al am an ao ap hv hi ho hold aJ aK aL aM;go_enter Tryz.func64,Tryz.ntmps64;go_upto_region 1 with(fail)
 rw[hW.out];clear hW;replace hT:=hid (tabs_next hT bq.out);go_wp2_with (refine ldX x1.out ?_);refine(a9.out (Jx J w) _ W (hJ.out _ (Nat.le_refl _)) rj.out).mono ?_;rintro e w1 ⟨v1,vb,rfl,ah,rb,q⟩;dsimp only at ah rb ⊢;obtain⟨Y1,rfl,a1,a2,_⟩:=rch_x ah;obtain⟨pb,cb,rfl⟩:=X0b rb.1;have L:=wx_C a1 a2;unfold TO16 at L;replace L:=hid L;clear rj;have rj:=hid ah;replace rb:=hid rb;have aY:W.heap.size≤w1.heap.size:=q.size;replace r0:=hid (XFa r0.out q);replace r1:=hid (XFa r1.out q);replace r2:=hid (XFa r2.out q);replace bq:=hid (X05 bq.out q);replace x0:=hid (XFa x0.out q)
 replace x1:=hid (XFa x1.out q);replace x2:=hid (XFa x2.out q);replace rp:=hid (X01 rp.out q);replace hM:=hid (XFn hM.out q);replace hT:=hid (tabs_next hT.out q);clear q a1 a2 ah a9;go_upto_region 2 with(refine stX x1.out L.out fun w2 p=>?_);have aT:W.heap.size≤w2.heap.size:=by have:=p.size;omega
 have u:=XFf (J:=Jx J w) p (.inr ⟨by omega,by omega⟩);replace x0:=hid (XFh x0.out p (by omega));replace x1:=hid (XFg p L.out);replace x2:=hid (XFh x2.out p (by omega));replace r0:=hid (XFh r0.out p (by omega));replace r1:=hid (XFh r1.out p (by omega));replace r2:=hid (XFh r2.out p (by omega));replace rj:=hid (X0L rj.out u);replace rp:=hid (X0L rp.out u);replace rb:=hid (X4o rb.out u);replace hM:=hid (XFm hM.out u);replace bq:=hid (p.below _ _ (by omega) bq.out);clear u p vj
 have ai:FdR Tryz.prog 48 (Jx J w) w w.heap.size w2.heap.size (fun Mk=>Mk++ #[.slice pp s.pend.length cp, .bool s.ended, .bool s.shut]) w2 (G []) (.slice none 0 0) w2:=by
  rw[ac.out];refine⟨M,by have h:=x0.out;rw[a0.out] at h;exact h,m9.out,m1.out,XFo hM.out (fun j _ h=>h.elim id (fun e=>by cases e)),X0O _ _,Xro _ _,bq.out⟩
 replace ai:=hid ai;go_wp2_with fail;go_loopg [12,13,15,24] b.length (fun g va vt vx vi wr=>∃k:Nat,k≤b.length∧vi= .int .i64 k∧g=b.length - k∧FdR Tryz.prog 48 (Jx J w) w w.heap.size w2.heap.size (fun Mk=>Mk++ #[.slice pp s.pend.length cp, .bool s.ended, .bool s.shut]) w2 (G (b.take k)) va wr)
 case atStart=>exact⟨0,Nat.zero_le _,rfl,rfl,by rw[List.take_zero];exact ai.out⟩
 case round=>
  obtain⟨k,hk,rfl,rfl,Mk,F,k9,k1,B,f,d,z⟩:=hrel;have av:=hid (tabs_next aI.out z);by_cases hlt:k<b.length
  ·have ay:(k:Int)<(b.length:Int):=by omega
   have az:=X4o rb.out (XGx (K:=Jx J w) d (fun j e=> .inr ⟨by omega,by omega⟩));obtain⟨bb,off,rfl,aZ,a3⟩:=ri_at az.1 (by omega);have hc:=a3 k hlt;have aD:=af.out b[k] (List.getElem_mem hlt);have H:=fun V W t h=>a4.out k b[k] V W t h aD;have E:=ad.out (b.take k) b[k];rw[←List.take_succ_eq_append_getElem hlt] at E;have ag:=a5.out (k+1);obtain⟨x,hx⟩: ∃x,b[k]=x:=⟨_,rfl⟩;rw[hx] at hc H E;obtain⟨⟨q1,q2⟩,hq⟩: ∃q,Mch.feedM (G (b.take k)).1 x=q:=⟨_,rfl⟩;rw[hq] at H E;rw[E] at ag;obtain⟨⟨m,l⟩,hQ⟩: ∃Q,G (b.take k)=Q:=⟨_,rfl⟩;rw[hQ] at H E B f ag;dsimp only at H E B f ag;rw[List.length_append] at ag
   have aU:w2.heap.size≤wr.heap.size:=d.1;have vk:=wx_M k9 k1;unfold TO15 at vk;have C:=(XGg (M:=Mk) (a:= .slice pp s.pend.length cp) (b:= .bool s.ended) (c:= .bool s.shut) k9).2.2.2.2;have y:=F;dsimp only at y;have ak:=XGC (hJ.out wr (by omega)) f;replace B:=hid B;replace f:=hid f;replace d:=hid d;replace z:=hid z;replace H:=hid H;replace E:=hid E;replace vk:=hid vk;replace C:=hid C;replace y:=hid y;replace ak:=hid ak;clear a3 hx hq hQ az F k1;go_wp2_with (refine ldM y.out 0 vk.out C.out ?_);refine(H.out _ wr av.out (XFr B.out)).mono ?_;intro e wc aj
   obtain⟨b2,b3,rfl,ra,P,q⟩:=XFq aj ak.out B.out;dsimp only at ra P;obtain⟨M7,rfl,a1,a2,_⟩:=rmo_x ra;obtain⟨pt,ct,rfl⟩:=X0b P.1;have v7:=wx_M a1 a2;unfold TO15 at v7;have w7:=wx_12 (p:=pp) (n:=s.pend.length) (c:=cp) (e:=s.ended) (h:=s.shut) a1 a2;unfold TO17 at w7;have h7:=XGe (a:= .slice pp s.pend.length cp) (b:= .bool s.ended) (c:= .bool s.shut) k9 a1;have aw:0+M7.size≤(Mk++(#[.slice pp s.pend.length cp, .bool s.ended, .bool s.shut]:Array Value)).size:=by rw[(XGg (a:= .slice pp s.pend.length cp) (b:= .bool s.ended) (c:= .bool s.shut) k9).2.2.2.1,a1];decide
   have D:=XFa y.out q;have a6:=X0x f.out q;have O:X4l (fun j=>j=w.heap.size) w2 wc:=X1m d.out (X1e q);have ae:=X05 z.out q;replace v7:=hid v7;replace h7:=hid h7;replace D:=hid D;replace ra:=hid ra;replace P:=hid P;replace a6:=hid a6;replace O:=hid O;replace ae:=hid ae;replace w7:=hid w7;clear q aj f d z B hc y H C vk;go_upto_region 7 with(refine stM D.out 0 v7.out aw h7.out fun w6 p=>?_);have aq:=hid (XFg p w7.out);have aW:=hid (XFm ra.out (XFf p (.inl (.inr ⟨by omega,by omega⟩))));have aX:=hid (X0Y (X4o P.out (XFf p (.inl (.inr ⟨by omega,by omega⟩)))).1)
   have a7:=hid (XA8 a6.out p.only (Xe4 a6.out (by omega)).symm);have I:X4l (fun j=>j=w.heap.size) w2 w6:=X1m O.out p.only;have aN:=hid (p.below _ _ (Nat.le_refl _) ae.out);obtain⟨po,co,rfl⟩:=X0b (X0a a7.out);have aC:=hid (show w2.heap.size≤w6.heap.size from I.1);have aB:=hid (show w.heap.size≤w6.heap.size by have:=I.1;omega);have ax:=hid (show w.heap.size≤w2.heap.size by omega);have aP:=hid (Xe4 a7.out (show w.heap.size<w2.heap.size by omega)).symm;have aG:=hid (show l.length+q2.length≤maxLen by unfold maxLen;omega);have aH:=hid (show (l.length+q2.length) *8≤140737488355328 by omega)
   replace I:=hid I;clear p D ra P a6 O ae h7 aw;go_wp2_with (at_builtin;refine X1i rfl _ _ 24 rfl w2.heap.size 3 i0 (.int .i64 0) 8 Tryz.underlying24 aO aQ aR aS rfl _ _ _ rfl a7.out _ _ rfl aX.out (X0u q2) (by rw[List.length_map];exact aG.out) (by rw[List.length_map];exact aH.out) aC.out ?_;intro v5 w5 a8 r N;have o5:=hid (X0i (l:=l++q2) a8 (by simp) (by simp));have x5:=hid (XGy aq.out r aP.out);have r5:=hid (XGA aW.out r N);have aV:=hid (XGz I.out r a7.out);have b5:=hid (X0k aN.out r aB.out a7.out ax.out);clear a8 r N);go_roundg (b.length - (k+1))
   case measure=>omega
   case rel=>exact⟨k+1,by omega,by go_num,rfl,by rw[E.out];exact⟨M7,x5.out,a1,a2,r5.out,o5.out,aV.out,b5.out⟩⟩
  ·obtain rfl:k=b.length:=by omega
   have ay:decide ((b.length:Int)<(b.length:Int))=false:=by simp
   rw[List.take_length,T.out] at B f;have aU:w2.heap.size≤wr.heap.size:=d.1;obtain⟨m2,l2⟩:=Q0;dsimp only at B f F;obtain⟨po,co,rfl⟩:=X0b (X0a f);have w9:=wx_12 (p:=po) (n:=l2.length) (c:=co) (e:=s.ended) (h:=s.shut) k9 k1;unfold TO17 at w9;have R:=(XGf (a:= .slice pp s.pend.length cp) (b:= .bool s.ended) (c:= .bool s.shut) k9 (.slice po l2.length co)).1;have l9:9<(Mk++(#[.slice pp s.pend.length cp, .bool s.ended, .bool s.shut]:Array Value)).size:=by rw[(XGg (a:= .slice pp s.pend.length cp) (b:= .bool s.ended) (c:= .bool s.shut) k9).2.2.2.1];decide
   obtain⟨X9,e9⟩: ∃X7,Mk++ #[.slice po l2.length co, .bool s.ended, .bool s.shut]=X7:=⟨_,rfl⟩;rw[e9] at w9 R;have au:=rs_mk (J:=Jx J w) (w:=wr) (e:=s.ended) (h:=s.shut) (XFo B fun j _ h=> .inl h) (Xzb f fun j h1 h2=>absurd (hJ.out w2 aT j h2) (Nat.not_lt.2 h1));rw[e9] at au;have ar:=XGx (K:=Jx J w) d (fun j e=> .inr ⟨by omega,by omega⟩);have y1:=XGw x1.out d (by omega);have y2:=XGw x2.out d (by omega);have g0:=XGw r0.out d (by omega);have g1:=XGw r1.out d (by omega);have g2:=XGw r2.out d (by omega);have aE:=X0L rj.out ar;have aF:=X0L rp.out ar;clear x0 x1 x2 r0 r1 r2 rj rp rt bq
   have rt:=hid au;have rj:=hid aE;have rp:=hid aF;have x0:=hid F;have x1:=hid y1;have x2:=hid y2;have r0:=hid g0;have r1:=hid g1;have r2:=hid g2;have bq:=hid z;replace w9:=hid w9;replace R:=hid R;have b0:W.heap.size≤wr.heap.size:=by omega
   clear au aE aF y1 y2 g0 g1 g2 F z d ar B f ad a5 a4 ac e9 T ai hM A h9 aa ab C vm a0 m9 m1 U hT vt rb af av k9 k1;go_upto_region 10 with(refine stC x0.out 9 l9 R.out rfl fun w6 p=>?_);have b1:W.heap.size≤w6.heap.size:=by have:=p.size;omega
   have u:=XFf (J:=Jx J w) p (.inr ⟨by omega,by omega⟩);replace x0:=hid (XFg p w9.out);replace x1:=hid (XFh x1.out p (by omega));replace x2:=hid (XFh x2.out p (by omega));replace r0:=hid (XFh r0.out p (by omega));replace r1:=hid (XFh r1.out p (by omega));replace r2:=hid (XFh r2.out p (by omega));replace rj:=hid (X0L rj.out u);replace rp:=hid (X0L rp.out u);replace rt:=hid (X3f rt.out u);replace bq:=hid (p.below _ _ (by omega) bq.out);clear u p R l9
   refine wp_region_held_drew (S:=S3 Tryz.prog w.heap.size (w.heap.size+1) (w.heap.size+1+1) X9 Y1 Z 48 49) (by kernel_rfl) ⟨XFa x0.out (Below.refl _ _).drew,XFa x1.out (Below.refl _ _).drew,XFa x2.out (Below.refl _ _).drew⟩ (fun hS=>?_);replace r0:=hid (XFa r0.out (Below.refl _ _).drew);replace r1:=hid (XFa r1.out (Below.refl _ _).drew);replace r2:=hid (XFa r2.out (Below.refl _ _).drew);replace bq:=hid (X05 bq.out (Below.refl _ _).drew);replace rt:=hid (X08 rt.out (Below.refl _ _).drew);replace rj:=hid (X01 rj.out (Below.refl _ _).drew);replace rp:=hid (X01 rp.out (Below.refl _ _).drew)
   refine' tkL 0 rfl (fun _ h=>h.1) hS ?_;try simp only[putA]
   refine' tkL 1 rfl (fun _ h=>h.2.1) hS ?_;try simp only[putA]
   refine' tkL 2 rfl (fun _ h=>h.2.2) hS ?_;try simp only[putA]
   refine' tk 3 rfl hS ?_;try simp only[putA]
   refine' tkS 4 rfl r0.out w9.out (fun b4 p0=>?_);have g:=XFE hS p0 (by omega) (by omega) (by omega);refine⟨g,?_⟩;replace hS:=g;clear g;try simp only[putA]
   have u:=XFf (J:=Jx J w) p0 (.inr ⟨by omega,by omega⟩);have s0:=hid (XFg p0 w9.out);replace r1:=hid (XFh r1.out p0 (by omega));replace r2:=hid (XFh r2.out p0 (by omega));replace rt:=hid (X3f rt.out u);replace rj:=hid (X0L rj.out u);replace rp:=hid (X0L rp.out u);replace bq:=hid (p0.below _ _ (by omega) bq.out);clear u p0;refine' tkS 5 rfl r1.out L.out (fun b6 p1=>?_);have g:=XFE hS p1 (by omega) (by omega) (by omega);refine⟨g,?_⟩;replace hS:=g;clear g;try simp only[putA]
   have u:=XFf (J:=Jx J w) p1 (.inr ⟨by omega,by omega⟩);have s1:=hid (XFg p1 L.out);replace r2:=hid (XFh r2.out p1 (by omega));replace s0:=hid (XFh s0.out p1 (by omega));replace rt:=hid (X3f rt.out u);replace rj:=hid (X0L rj.out u);replace rp:=hid (X0L rp.out u);replace bq:=hid (p1.below _ _ (by omega) bq.out);clear u p1;refine' tkS 6 rfl r2.out vp.out (fun b7 p2=>?_);have g:=XFE hS p2 (by omega) (by omega) (by omega);refine⟨g,?_⟩;replace hS:=g;clear g;try simp only[putA]
   have u:=XFf (J:=Jx J w) p2 (.inr ⟨by omega,by omega⟩);have s2:=hid (XFg p2 vp.out);replace s0:=hid (XFh s0.out p2 (by omega));replace s1:=hid (XFh s1.out p2 (by omega));replace rt:=hid (X3f rt.out u);replace rj:=hid (X0L rj.out u);replace rp:=hid (X0L rp.out u);replace bq:=hid (p2.below _ _ (by omega) bq.out);clear u p2;refine' tk 7 rfl hS ?_;try simp only[putA]
   refine wpAnyH_done (by kernel_rfl) ?_ _;clear hS;go_wp2_with fail;exact bodyPost_ret (res4 (v:= .bool ok) s0.out s1.out s2.out) rfl ⟨_,_,_,rfl,X3s rt.out (fun _ _ h=>Or.inl h),X0Q rj.out (fun _ _ h=>Or.inl h),X0Q rp.out (fun _ _ h=>Or.inl h),bq.out⟩
def Mov(v:Value)(s:St)(i:Ch)(G:Nat):Prop:=(∀ (xs:Array Value) (W:World),(callFunc G xs).run Tryz.prog W= .ok (.enter G xs) W)∧∀ (J:Nat→Prop) (vi vo:Value) (o:Ch) (W:World),Tabs W→Old J W→o.Few→Stg.saneC o=true→RS J W v s→RCh J W vi i→RCh J W vo o→Calls Tryz.prog G #[v,vi,vo] W (XeD J (Stg.stepK s i o) W)
theorem Stg.Xzg{o:Ch}{b:List Int}(h:Stg.saneC o=true)(hp:(Stg.putC o b).2=false):(Stg.putC o b).1=o:=by
 unfold Stg.putC at hp ⊢
 split
 ·rename_i h1;rw[if_pos h1] at hp;cases hp
 ·exact Stg.X0y h
theorem Stg.count_pos{i:Ch}(h:Stg.saneC i=true):(0<Stg.X1Z i)↔i.L≠ []:=by
 unfold Stg.X1Z;rw[Stg.X0y h];cases e:i.L with
 | nil=>simp
 |
  cons b r=>
  have:=((Stg.X11 i).1 h).2 b (by rw[e];exact List.mem_cons_self ..);simp;omega
section
variable (hF:FeedC15) (hE:EndC15) {v:Value} {s:St} {i:Ch} (hs:s.Small) (hss:Stg.SaneS s) (hfi:i.Few) (hsi:Stg.saneC i=true) (hwi:i.Wf)
theorem XGD(h: ∀o,Stg.stepK s i o=(s,i,o,false)):Mov v s i 61:=
 ⟨fun xs W=>by simp [go_sem],fun J vi vo o W hT hJ a b r1 r2 r3=>by rw[h];exact rest17 J v s vi i vo o W hJ r1 r2 r3⟩
include hs in
theorem XGG(h1:s.shut=false)(h2:s.pend≠ []):Mov v s i 62:=
 ⟨fun xs W=>by simp [go_sem],fun J vi vo o W hT hJ a b r1 r2 r3=>by
  have h:=put17 J v s vi i vo o W hJ h2 hs a r1 r2 r3;unfold Stg.stepK;rw[if_neg (by rw[h1];simp),if_pos h2];cases e:(Stg.putC o (s.pend.take 8)).2 with
  |
   true=>
   rw[e,if_pos rfl,h1] at h;rw[if_pos rfl];exact h
  |
   false=>
   rw[e,if_neg (by simp),Stg.Xzg b e] at h;rw[if_neg (by simp)];exact h⟩
theorem XGE(h1:s.shut=false)(h2:s.pend= [])(h3:s.ended=true):Mov v s i 63:=
 ⟨fun xs W=>by simp [go_sem],fun J vi vo o W hT hJ a b r1 r2 r3=>by
  have h:=XGs J v s vi i vo o W hJ a r1 r2 r3;unfold Stg.stepK;rw[if_neg (by rw[h1];simp),if_neg (by simp [h2]),if_pos h3];rw[h2,h3] at h;exact h⟩
include hF hss hfi hsi hwi in
theorem XGF(h1:s.shut=false)(h2:s.pend= [])(h3:s.ended=false)(h4:i.L≠ []):Mov v s i 64:=
 ⟨fun xs W=>by simp [go_sem],fun J vi vo o W hT hJ c d r1 r2 r3=>by
  cases e:i.L with
  | nil=>exact absurd e h4
  |
   cons b r=>
   have hb:=((Stg.X11 i).1 hsi).2 b (by rw[e];exact List.mem_cons_self ..);have a:Stg.takeC i=(⟨r,i.closed⟩,b,true):=by unfold Stg.takeC;rw[Stg.X0y hsi,e]
   have h:=XGB hF J v s vi i vo o W _ b true a hb.2 (hwi b (by rw[e];exact List.mem_cons_self ..)) hss.m hT hJ hfi r1 r2 r3;unfold Stg.stepK;rw[if_neg (by rw[h1];simp),if_neg (by simp [h2]),if_neg (by rw[h3];simp),e];rw[h1,h3] at h;exact h⟩
include hE hs in
theorem XGH(h1:s.shut=false)(h2:s.pend= [])(h3:s.ended=false)(h4:i.L= [])(h5:i.closed=true):Mov v s i 65:=
 ⟨fun xs W=>by simp [go_sem],fun J vi vo o W hT hJ a b r1 r2 r3=>by
  have h:=end17 hE J v s vi i vo o W hT hJ hs r1 r2 r3;unfold Stg.stepK;rw[if_neg (by rw[h1];simp),if_neg (by simp [h2]),if_neg (by rw[h3];simp),h4];dsimp only
  rw[if_pos h5];rw[h1] at h;exact h⟩
end
theorem XGI(hF:FeedC15)(hE:EndC15){J K:Nat→Prop}{v vi:Value}{s:St}{i:Ch}{w:World}(hs:s.Small)(hss:Stg.SaneS s)(hfi:i.Few)(hsi:Stg.saneC i=true)(hwi:i.Wf)(hv:RS J w v s)(hi:RCh K w vi i):
 Calls Tryz.prog 37 #[v,vi] w fun e w'=>∃G,e= .returned (.func (.func G) #[v] #[])∧Mov v s i G∧Below w.heap.size w w':=by
 have m1:=fun h=>XGD (v:=v) (s:=s) (i:=i) h;have m2:=fun h1 h2=>XGG (v:=v) (i:=i) hs h1 h2;have m3:=fun h1 h2 h3=>XGE (v:=v) (s:=s) (i:=i) h1 h2 h3;have m4:=fun h1 h2 h3 h4=>XGF (v:=v) hF hss hfi hsi hwi h1 h2 h3 h4;have m5:=fun h1 h2 h3 h4 h5=>XGH (v:=v) (i:=i) hE hs h1 h2 h3 h4 h5;have f:=fun W V r=>X7M K V i W hfi r;have b:=fun W V r=>X7K K V i W hfi r;have a:=Stg.count_pos hsi;have n:Stg.X6T i=(i.closed && i.L.isEmpty):=by unfold Stg.X6T;rw[Stg.X0y hsi]
 rw[n] at b;have x:=hs.p;obtain⟨X,rfl,g,j⟩:=rs_x hv;obtain⟨_,⟨pp,cp,h9,_⟩,t,u,_⟩:=XFp hv;obtain⟨Y,rfl,k,l,_⟩:=rch_x hi;obtain⟨W,hW,x0,x1,bq,_⟩:=wtwo (w:=w) (wx_S g j) (wx_C k l);have ri:=X01 hi bq;unfold TO17 TO16 at *
 replace hW:=hid hW;replace x0:=hid x0;replace x1:=hid x1;replace bq:=hid bq;replace ri:=hid ri;replace m1:=hid m1;replace m2:=hid m2;replace m3:=hid m3;replace m4:=hid m4;replace m5:=hid m5;replace f:=hid f;replace b:=hid b;replace a:=hid a;clear g j k l hv hi hs hss hfi hsi hwi hF hE n;go_enter Tryz.func37,Tryz.ntmps37;go_upto_region 1 with(fail);rw[hW.out];have c9:=XFe x0.out 9 _ h9;have c:=XFe x0.out 10 _ t;have d:=XFe x0.out 11 _ u;cases h1:s.shut with
 |
  true=>
  rw[h1] at d;have mv:=hid (m1.out fun o=>by unfold Stg.stepK;rw[if_pos h1]);clear h1 m1 m2 m3 m4 m5;go_wp2_with (refine ldX x0.out ?_);go_ret;exact⟨_,rfl,mv.out,bq.out⟩
 |
  false=>
  rw[h1] at d;by_cases h2:s.pend= []
  ·have hn: ¬(0:Int)<(s.pend.length:Int):=by rw[h2];simp
   cases h3:s.ended with
   |
    true=>
    rw[h3] at c;have mv:=hid (m3.out h1 h2 h3);clear h1 h2 h3 m1 m2 m3 m4 m5;go_wp2_with (refine ldX x0.out ?_);go_ret;exact⟨_,rfl,mv.out,bq.out⟩
   |
    false=>
    rw[h3] at c;go_wp2_with (refine ldX x1.out ?_);refine(f.out W _ ri.out).mono ?_;rintro e w1 ⟨rfl,q⟩;replace x0:=hid (XFa x0.out q);replace x1:=hid (XFa x1.out q);replace bq:=hid (X05 bq.out q);replace ri:=hid (X01 ri.out q);clear q c9 c d hW;by_cases h4:i.L= []
    ·have m:Stg.X1Z i=0:=Nat.eq_zero_of_not_pos fun h=>a.out.1 h h4;rw[m];go_wp2_with (refine ldX x1.out ?_);refine(b.out w1 _ ri.out).mono ?_;rintro e w2 ⟨rfl,q⟩;replace x0:=hid (XFa x0.out q);replace bq:=hid (X05 bq.out q);clear q;rw[h4];cases h5:i.closed with
     |
      true=>
      have mv:=hid (m5.out h1 h2 h3 h4 h5);clear h1 h2 h3 h4 h5 m1 m2 m3 m4 m5;go_wp2_with (refine ldX x0.out ?_);go_ret;exact⟨_,rfl,mv.out,bq.out⟩
     |
      false=>
      have mv:=hid (m1.out fun o=>by unfold Stg.stepK;rw[if_neg (by rw[h1];simp),if_neg (by simp [h2]),if_neg (by rw[h3];simp),h4];dsimp only;rw[if_neg (by rw[h5];simp)]);clear h1 h2 h3 h4 h5 m1 m2 m3 m4 m5;go_wp2_with (refine ldX x0.out ?_);go_ret;exact⟨_,rfl,mv.out,bq.out⟩
    ·have m:(0:Int)<(Stg.X1Z i:Int):=by have:=a.out.2 h4;omega
     have mv:=hid (m4.out h1 h2 h3 h4);clear h1 h2 h3 h4 m1 m2 m3 m4 m5;go_wp2_with (refine ldX x0.out ?_);go_ret;exact⟨_,rfl,mv.out,bq.out⟩
  ·have hn:(0:Int)<(s.pend.length:Int):=by have:=List.length_pos_iff.2 h2;omega
   have mv:=hid (m2.out h1 h2);clear h1 h2 m1 m2 m3 m4 m5;go_wp2_with (refine ldX x0.out ?_);go_ret;exact⟨_,rfl,mv.out,bq.out⟩
theorem XGQ(hF:FeedC15)(hE:EndC15):StepC17:=by
 intro J v s vi i vo o w hT hold hs hfi ae hwi hv hi ho;have E:=fun V W t r=>XGv (Jx J w) V s W t hs r;have B:=fun V W h r=>XGq (Jx J w) V i W h hfi r;have C:=fun V W h r=>XGq (Jx J w) V o W h ae r;have R:=Stg.XnT s;have O:=Stg.X2I i;have I:=Stg.X2I o;have M:(Stg.asC i).Wf:=by
  unfold Stg.asC
  split
  ·exact hwi
  ·intro b hb;cases hb
 have a7:I64 (Stg.asS s).m.kind:=by
  unfold Stg.asS
  split
  ·exact hs.k
  ·unfold Stg.newS Mch.newM
   split
   ·exact hs.k
   ·decide
 unfold Stg.stepS;obtain⟨t,ht⟩: ∃t,Stg.asS s=t:=⟨_,rfl⟩;obtain⟨i2,af⟩: ∃t,Stg.asC i=t:=⟨_,rfl⟩;obtain⟨o2,ag⟩: ∃t,Stg.asC o=t:=⟨_,rfl⟩;rw[ht] at E R a7 ⊢;rw[af] at B O M ⊢;rw[ag] at C I ⊢;have a8:t.Small:=by
  have h2:=R;exact⟨Mch.small_sane h2.m,by have:=h2.pend;omega,a7⟩
 have N:=fun V W r=>XGr (Jx J w) V t W a8 r;have T:=X1n O;have D:=X1n I;have P:=fun(K K':Nat→Prop) (V VI:Value) (W:World) r1 r2=>XGI (J:=K) (K:=K') (v:=V) (vi:=VI) (w:=W) hF hE a8 R T O M r1 r2;replace E:=hid E;replace B:=hid B;replace C:=hid C;replace N:=hid N;replace P:=hid P;replace D:=hid D;replace I:=hid I;clear ht af ag hs hfi ae hwi a7 R O M T a8;have ac:=hid hT;obtain⟨X,rfl,z,a0⟩:=rs_x hv;obtain⟨Y,rfl,a3,a4,ai,aj⟩:=rch_x hi;obtain⟨Z,rfl,a5,a6,ak,al⟩:=rch_x ho;obtain⟨W,hW,x0,x1,x2,r0,r1,r2,bq⟩:=six (w:=w) (wx_S z a0) (wx_C a3 a4) (wx_C a5 a6) wz_S wz_C wz_C
 have rt:=X08 (XFC (K:=Jx J w) hv XFB) bq;have rj:=X01 (XFA (K:=Jx J w) hi XFB) bq;have rp:=X01 (XFA (K:=Jx J w) ho XFB) bq;have vt:=wx_S z a0;have vj:=wx_C a3 a4;have vp:=wx_C a5 a6;have hJ: ∀W',W.heap.size≤W'.heap.size→Old (Jx J w) W':=fun W' h j hj=>by
  have:=X1h r2.blk;rcases hj with hj | hj
  ·have:=hold j hj;omega
  ·omega
 have hz:=X1h r2.blk;unfold zeroS zeroC TO17 TO16 at *
 try unfold TO15 at *
 replace hW:=hid hW;replace x0:=hid x0;replace x1:=hid x1;replace x2:=hid x2;replace r0:=hid r0;replace r1:=hid r1;replace r2:=hid r2;replace bq:=hid bq;replace rt:=hid rt;replace rj:=hid rj;replace rp:=hid rp;replace vt:=hid vt;replace vj:=hid vj;replace vp:=hid vp;replace hJ:=hid hJ;replace z:=hid z;clear a0 a3 a4 a5 a6 hv hi ho hold ai aj ak al;go_enter Tryz.func11,Tryz.ntmps11;go_upto_region 1 with(fail);rw[hW.out];clear hW;replace hT:=hid (tabs_next hT bq.out);replace x0:=hid (XFa x0.out (Below.refl _ _).drew);replace x1:=hid (XFa x1.out (Below.refl _ _).drew)
 replace x2:=hid (XFa x2.out (Below.refl _ _).drew);replace r0:=hid (XFa r0.out (Below.refl _ _).drew);replace r1:=hid (XFa r1.out (Below.refl _ _).drew);replace r2:=hid (XFa r2.out (Below.refl _ _).drew);replace bq:=hid (X05 bq.out (Below.refl _ _).drew);replace hT:=hid (tabs_next hT.out (Below.refl _ _).drew);replace rt:=hid (X08 rt.out (Below.refl _ _).drew);replace rj:=hid (X01 rj.out (Below.refl _ _).drew);replace rp:=hid (X01 rp.out (Below.refl _ _).drew)
 refine RgA.XGu (S:=fun _=>True) (J0:=fun _=>False) (X:= [0,1,2,3,4,5,6]) (Y:= []) (A:= []) (F:=fun fk KJ v wz=>match fk with | 0=>v= .agg X | 1=>RS (Jx J w) wz v t | 2=>RS (Jx J w) wz v t | 3=>v= .agg Y | 4=>RCh (Jx J w) wz v i2 | 5=>v= .agg Z | 6=>RCh (Jx J w) wz v o2 | _=>True) _ (fun _ _=>trivial) (by kernel_rfl) (by kernel_rfl) (by kernel_rfl) (by decide) (fun c a d v wz h=>by cases d <;> exact h) (fun _ h=>h.elim) ?stable ?fresh ?self ?step ?pure ?fin
 case stable=>
  intro k KJ v wz aE h hb
  match k,h with
  | 0,h=>exact h
  | 1,h=>exact X08 h hb
  | 2,h=>exact X08 h hb
  | 3,h=>exact h
  | 4,h=>exact X01 h hb
  | 5,h=>exact h
  | 6,h=>exact X01 h hb
  | _+7,h=>trivial
 case fresh=>
  intro k KJ v wz p h hp
  match k,h with
  | 0,h=>exact h
  | 1,h=>exact h
  | 2,h=>exact h
  | 3,h=>exact h
  | 4,h=>exact h
  | 5,h=>exact h
  | 6,h=>exact h
  | _+7,h=>trivial
 case self=>
  intro k hk;simp at hk
 case step=>
  simp only[List.cons_append,List.nil_append];refine RgA.Steps.cons (o:=⟨_,_,_,_,_,_⟩) rfl ?_ (RgA.Steps.cons (o:=⟨_,_,_,_,_,_⟩) rfl ?_ (RgA.Steps.cons (o:=⟨_,_,_,_,_,_⟩) rfl ?_ (RgA.Steps.cons (o:=⟨_,_,_,_,_,_⟩) rfl ?_ (RgA.Steps.cons (o:=⟨_,_,_,_,_,_⟩) rfl ?_ (RgA.Steps.cons (o:=⟨_,_,_,_,_,_⟩) rfl ?_ (RgA.Steps.cons (o:=⟨_,_,_,_,_,_⟩) rfl ?_ RgA.Steps.nil))))))
  ·intro y wz KJ x n f hd K' hK;rw[RgA.X0q _ lq2481 (by kernel_rfl)] at hK ⊢;simp only[lq2481,RgA.mkE] at hK ⊢;refine atL (XFa x0.out f) ?_;have H:=hK.out (.agg X) wz (rfl) (Below.refl _ _) (fun h=>by simp at h);simp only[Act.put,putA] at H;exact H
  ·intro y wz KJ x n f hd K' hK;have d0:(y 0)= .agg X:=hd 0 (by kernel_rfl);rw[RgA.X0q _ lq2481 (by kernel_rfl)] at hK ⊢;simp only[lq2481,RgA.mkE] at hK ⊢;rw[d0] at hK ⊢;go_simp;refine(E.out _ wz (tabs_next hT.out f) (X08 rt.out f)).mono ?_;rintro e w1 ⟨v1,rfl,r1,q⟩;go_wp2_with fail;have H:=hK.out (v1) w1 (r1) (q) (fun h=>by simp at h);simp only[Act.put,putA] at H;exact H
  ·intro y wz KJ x n f hd K' hK;have d1:RS (Jx J w) wz (y 1) t:=hd 1 (by kernel_rfl);rw[RgA.X0q _ lq2481 (by kernel_rfl)] at hK ⊢;simp only[lq2481,RgA.mkE] at hK ⊢;generalize y 1=y1 at d1 hK ⊢;go_simp;refine(N.out _ wz d1).mono ?_;rintro e w1 ⟨v1,rfl,r1,q⟩;have r1:=X3s (K:=Jx J w) r1 (fun j _ h=>Nat.lt_of_lt_of_le (hJ.out W (Nat.le_refl _) j h) f.size);go_wp2_with fail;have H:=hK.out (v1) w1 (r1) (q) (fun h=>by simp at h);simp only[Act.put,putA] at H;exact H
  ·intro y wz KJ x n f hd K' hK;rw[RgA.X0q _ lq2481 (by kernel_rfl)] at hK ⊢;simp only[lq2481,RgA.mkE] at hK ⊢;refine atL (XFa x1.out f) ?_;have H:=hK.out (.agg Y) wz (rfl) (Below.refl _ _) (fun h=>by simp at h);simp only[Act.put,putA] at H;exact H
  ·intro y wz KJ x n f hd K' hK;have d3:(y 3)= .agg Y:=hd 3 (by kernel_rfl);rw[RgA.X0q _ lq2481 (by kernel_rfl)] at hK ⊢;simp only[lq2481,RgA.mkE] at hK ⊢;rw[d3] at hK ⊢;go_simp;refine(B.out _ wz (hJ.out _ f.size) (X01 rj.out f)).mono ?_;rintro e w1 ⟨v1,rfl,r1,q⟩;go_wp2_with fail;have H:=hK.out (v1) w1 (r1) (q) (fun h=>by simp at h);simp only[Act.put,putA] at H;exact H
  ·intro y wz KJ x n f hd K' hK;rw[RgA.X0q _ lq2481 (by kernel_rfl)] at hK ⊢;simp only[lq2481,RgA.mkE] at hK ⊢;refine atL (XFa x2.out f) ?_;have H:=hK.out (.agg Z) wz (rfl) (Below.refl _ _) (fun h=>by simp at h);simp only[Act.put,putA] at H;exact H
  ·intro y wz KJ x n f hd K' hK;have d5:(y 5)= .agg Z:=hd 5 (by kernel_rfl);rw[RgA.X0q _ lq2481 (by kernel_rfl)] at hK ⊢;simp only[lq2481,RgA.mkE] at hK ⊢;rw[d5] at hK ⊢;go_simp;refine(C.out _ wz (hJ.out _ f.size) (X01 rp.out f)).mono ?_;rintro e w1 ⟨v1,rfl,r1,q⟩;go_wp2_with fail;have H:=hK.out (v1) w1 (r1) (q) (fun h=>by simp at h);simp only[Act.put,putA] at H;exact H
 case pure=>
  refine RgA.Pures.nil
 intro y wy g KJ _ aw _ hF _;have d0:(y 0)= .agg X:=hF 0 (by decide);have d1:RS (Jx J w) wy (y 1) t:=hF 1 (by decide);have d2:RS (Jx J w) wy (y 2) t:=hF 2 (by decide);have d3:(y 3)= .agg Y:=hF 3 (by decide);have d4:RCh (Jx J w) wy (y 4) i2:=hF 4 (by decide);have d5:(y 5)= .agg Z:=hF 5 (by decide);have d6:RCh (Jx J w) wy (y 6) o2:=hF 6 (by decide);rw[RgA.X0q _ lq2481 (by kernel_rfl)];simp only[lq2481,RgA.mkE];have aq:W.heap.size≤wy.heap.size:=g.size;replace x0:=hid (XFa x0.out g);replace x1:=hid (XFa x1.out g);replace x2:=hid (XFa x2.out g);replace r0:=hid (XFa r0.out g)
 replace r1:=hid (XFa r1.out g);replace r2:=hid (XFa r2.out g);replace bq:=hid (X05 bq.out g);replace hT:=hid (tabs_next hT.out g);obtain⟨XT,eT,a1,a2⟩:=rs_x d2;obtain⟨YT,eY,b1,b2,_⟩:=rch_x d4;obtain⟨ZT,eZ,g1,g2,_⟩:=rch_x d6;have v2:=wx_S a1 a2;have v4:=wx_C b1 b2;have v6:=wx_C g1 g2;unfold TO17 at v2;unfold TO16 at v4 v6;rw[eT] at d2;rw[eY] at d4;rw[eZ] at d6;rw[d0,d3,d5,eT,eY,eZ];clear rt rj rp;have rt:=hid d2;have rj:=hid d4;have rp:=hid d6;generalize y 1=y1;clear d0 d1 d2 d3 d4 d5 d6 eT eY eZ a1 a2 b1 b2 g1 g2 g E B C N vt vj vp z;have vt:=hid v2;have vj:=hid v4;have vp:=hid v6
 clear v2 v4 v6;refine' tkS 7 rfl x0.out vt.out (fun an p=>?_);refine⟨trivial,?_⟩;have u:=XFf (J:=Jx J w) p (.inr ⟨by omega,by omega⟩);try simp only[putA]
 replace x0:=hid (XFg p vt.out);replace x1:=hid (XFh x1.out p (by omega));replace x2:=hid (XFh x2.out p (by omega));replace r0:=hid (XFh r0.out p (by omega));replace r1:=hid (XFh r1.out p (by omega));replace r2:=hid (XFh r2.out p (by omega));replace rt:=hid (X3f rt.out u);replace rj:=hid (X0L rj.out u);replace rp:=hid (X0L rp.out u);replace bq:=hid (p.below _ _ (by omega) bq.out);have ar:W.heap.size≤an.heap.size:=by have:=p.size;omega
 clear u p;refine' tkS 8 rfl x1.out vj.out (fun ao p=>?_);refine⟨trivial,?_⟩;have u:=XFf (J:=Jx J w) p (.inr ⟨by omega,by omega⟩);try simp only[putA]
 replace x0:=hid (XFh x0.out p (by omega));replace x1:=hid (XFg p vj.out);replace x2:=hid (XFh x2.out p (by omega));replace r0:=hid (XFh r0.out p (by omega));replace r1:=hid (XFh r1.out p (by omega));replace r2:=hid (XFh r2.out p (by omega));replace rt:=hid (X3f rt.out u);replace rj:=hid (X0L rj.out u);replace rp:=hid (X0L rp.out u);replace bq:=hid (p.below _ _ (by omega) bq.out);have au:W.heap.size≤ao.heap.size:=by have:=p.size;omega
 clear u p;refine' tkS 9 rfl x2.out vp.out (fun ah p=>?_);refine⟨trivial,?_⟩;have u:=XFf (J:=Jx J w) p (.inr ⟨by omega,by omega⟩);try simp only[putA]
 replace x0:=hid (XFh x0.out p (by omega));replace x1:=hid (XFh x1.out p (by omega));replace x2:=hid (XFg p vp.out);replace r0:=hid (XFh r0.out p (by omega));replace r1:=hid (XFh r1.out p (by omega));replace r2:=hid (XFh r2.out p (by omega));replace rt:=hid (X3f rt.out u);replace rj:=hid (X0L rj.out u);replace rp:=hid (X0L rp.out u);replace bq:=hid (p.below _ _ (by omega) bq.out);have av:W.heap.size≤ah.heap.size:=by have:=p.size;omega
 clear u p;refine wpAnyH_done (by kernel_rfl) ?_ _;have ax:Tabs w:=ac.out;clear hT;go_wp2_with (first | refine ldX x0.out ?_ | refine ldX x1.out ?_);refine(P.out _ _ _ _ ah rt.out rj.out).mono ?_;rintro e w7 ⟨G,rfl,⟨ap,U⟩,q⟩;have am:W.heap.size≤w7.heap.size:=by have:=q.size;omega
 replace x1:=hid (XFa x1.out q);replace x2:=hid (XFa x2.out q);replace r0:=hid (XFa r0.out q);replace r1:=hid (XFa r1.out q);replace r2:=hid (XFa r2.out q);replace bq:=hid (X05 bq.out q);replace rt:=hid (X08 rt.out q);replace rj:=hid (X01 rj.out q);replace rp:=hid (X01 rp.out q);have ad:=tabs_next ac.out bq.out;clear q x0 P;obtain⟨⟨ts,ti,tu,tk⟩,L⟩: ∃q,Stg.stepK t i2 o2=q:=⟨_,rfl⟩;have l:=U (Jx J w) _ _ o2 w7 ad (hJ.out _ am) D.out I.out rt.out rj.out rp.out;rw[L] at l;unfold XeD at l;dsimp only at l;replace l:=hid l;clear U ad;go_wp2_with (first | refine ldX x1.out ?_ | refine ldX x2.out ?_)
 refine l.out.mono ?_;rintro e w8 ⟨vs,az,aA,rfl,ab,a9,aa,q⟩;obtain⟨X7,rfl,a1,a2⟩:=rs_x ab;obtain⟨Y7,rfl,b1,b2,_⟩:=rch_x a9;obtain⟨Z7,rfl,g1,g2,_⟩:=rch_x aa;have v7:=wx_S a1 a2;have u7:=wx_C b1 b2;have z7:=wx_C g1 g2;unfold TO17 at v7;unfold TO16 at u7 z7;replace v7:=hid v7;replace u7:=hid u7;replace z7:=hid z7;clear rt rj rp x1 x2 l;have rt:=hid ab;have rj:=hid a9;have rp:=hid aa;have ay:W.heap.size≤w8.heap.size:=by have:=q.size;omega
 replace r0:=hid (XFa r0.out q);replace r1:=hid (XFa r1.out q);replace r2:=hid (XFa r2.out q);replace bq:=hid (X05 bq.out q);clear q ab a9 aa a1 a2 b1 b2 g1 g2
 go_wp2_with (first | (refine stX r0.out v7.out fun aB p0=>?_;have u:=XFf (J:=Jx J w) p0 (.inr ⟨by omega,by omega⟩);have s0:=hid (XFg p0 v7.out);replace r1:=hid (XFh r1.out p0 (by omega));replace r2:=hid (XFh r2.out p0 (by omega));replace rt:=hid (X3f rt.out u);replace rj:=hid (X0L rj.out u);replace rp:=hid (X0L rp.out u);replace bq:=hid (p0.below _ _ (by omega) bq.out);clear u p0) | (refine stX r1.out u7.out fun aC p1=>?_;have u:=XFf (J:=Jx J w) p1 (.inr ⟨by omega,by omega⟩);have s1:=hid (XFg p1 u7.out);replace r2:=hid (XFh r2.out p1 (by omega));replace s0:=hid (XFh s0.out p1 (by omega));replace rt:=hid (X3f rt.out u);replace rj:=hid (X0L rj.out u);replace rp:=hid (X0L rp.out u);replace bq:=hid (p1.below _ _ (by omega) bq.out);clear u p1) | (refine stX r2.out z7.out fun aD p2=>?_;have u:=XFf (J:=Jx J w) p2 (.inr ⟨by omega,by omega⟩);have s2:=hid (XFg p2 z7.out);replace s0:=hid (XFh s0.out p2 (by omega));replace s1:=hid (XFh s1.out p2 (by omega));replace rt:=hid (X3f rt.out u);replace rj:=hid (X0L rj.out u);replace rp:=hid (X0L rp.out u);replace bq:=hid (p2.below _ _ (by omega) bq.out);clear u p2))
 exact bodyPost_ret (res4 (v:= .bool tk) s0.out s1.out s2.out) rfl ⟨_,_,_,by rw[L],by rw[L];exact X3s rt.out (fun _ _ h=>Or.inl h),by rw[L];exact X0Q rj.out (fun _ _ h=>Or.inl h),by rw[L];exact X0Q rp.out (fun _ _ h=>Or.inl h),bq.out⟩
theorem XGP(hP:StepC17):CanC17:=by
 intro J v s vi i vo o w hT hold hs hfi l hwi hv hi ho;have b:=fun V VI VO W t h1 h2 h3 h4=>hP J V s VI i VO o W t h1 hs hfi l hwi h2 h3 h4;obtain⟨⟨t,i2,o2,ok⟩,hq⟩: ∃q,Stg.stepS s i o=q:=⟨_,rfl⟩;rw[hq] at b ⊢;unfold XeD at b;dsimp only at b ⊢;obtain⟨X,rfl,c,d⟩:=rs_x hv;obtain⟨Y,rfl,f,g,_⟩:=rch_x hi;obtain⟨Z,rfl,h,k,_⟩:=rch_x ho;obtain⟨W,hW,x0,x1,x2,bq⟩:=three (w:=w) (wx_S c d) (wx_C f g) (wx_C h k);have a:=hid (b _ _ _ W (tabs_next hT bq) (fun j hj=>Nat.lt_of_lt_of_le (hold j hj) bq.size) (X08 hv bq) (X01 hi bq) (X01 ho bq));unfold TO17 TO16 at *
 replace hW:=hid hW;replace x0:=hid x0;replace x1:=hid x1;replace x2:=hid x2;replace bq:=hid bq;clear c d f g h k hv hi ho b hq hold hT hs hfi l hwi;go_enter Tryz.func19,Tryz.ntmps19;go_upto_region 1 with(fail);rw[hW.out];go_wp2_with (first | refine ldX x0.out ?_ | refine ldX x1.out ?_ | refine ldX x2.out ?_);refine a.out.mono ?_;rintro e w1 ⟨vs,n,p,rfl,rt,rj,rp,q⟩;obtain⟨X7,rfl,a1,a2⟩:=rs_x rt;obtain⟨Y7,rfl,b1,b2,_⟩:=rch_x rj;obtain⟨Z7,rfl,g1,g2,_⟩:=rch_x rp;have v7:=wx_S a1 a2;have u7:=wx_C b1 b2;have z7:=wx_C g1 g2;obtain⟨_,rfl,y0,y1,y2,b3⟩:=three (w:=w1) wz_S wz_C wz_C
 unfold TO17 TO16 zeroS zeroC at *
 replace v7:=hid v7;replace u7:=hid u7;replace z7:=hid z7;replace y0:=hid y0;replace y1:=hid y1;replace y2:=hid y2;replace bq:=hid (X05 (X05 bq.out q) b3);have hz:=q.size;have m:=X1h x2.out.blk;clear rt rj rp q a1 a2 b1 b2 g1 g2 b3 x0 x1 x2 a;go_wp2_with (first | (refine stX y0.out v7.out fun wa pa=>?_) | (refine stX (XFh y1.out pa (by omega)) u7.out fun wb pb=>?_) | (refine stX (XFh (XFh y2.out pa (by omega)) pb (by omega)) z7.out fun wc pc=>?_))
 refine bodyPost_ret (v:= .bool ok) (by simp [results,Tryz.results19,go_sem]) rfl ⟨rfl,pc.below _ _ (by omega) (pb.below _ _ (by omega) (pa.below _ _ (by omega) bq.out))⟩
theorem XG9:CostC17:=by
 intro J v s w hT hs hv;have i:=fun V W t r=>XGv (Jn 1 J w) V s W t hs r;have j:=Stg.Xye s;have l:=Stg.XnT s;unfold Stg.costS at j ⊢;obtain⟨t,ht⟩: ∃t,Stg.asS s=t:=⟨_,rfl⟩;rw[ht] at i j l ⊢;have z:=Mch.small_sane l.m;obtain⟨c,hc⟩: ∃c,Mch.costM t.m=c:=⟨_,rfl⟩;have f:=fun V W t' h=>XdG V t.m W t' z h;rw[hc] at f j ⊢;clear ht hc hs z l;obtain⟨X,rfl,u,x⟩:=rs_x hv;have x0:=hid (XFb (wx_S u x) w);have bq:=hid (X04 w (.cells X TO17));have n:=hid hT;have o:=tabs_next hT bq.out;have d:=hid (i _ (w.alloc (.cells X TO17)) o (X08 (XFC (K:=Jn 1 J w) hv XGo) bq.out));unfold TO17 at *
 obtain⟨W,hW⟩: ∃W,w.alloc (.cells X 48)=W:=⟨_,rfl⟩;rw[hW] at x0 bq d;replace hW:=hid hW;replace f:=hid f;have hz:=X1h x0.out.blk;clear u x hv i hT o;go_enter Tryz.func20,Tryz.ntmps20;go_upto_region 1 with(fail);rw[hW.out];go_wp2_with (refine ldX x0.out ?_);refine d.out.mono ?_;rintro e w1 ⟨v1,rfl,rt,q⟩;obtain⟨XT,rfl,a1,a2⟩:=rs_x rt;have vt:=wx_S a1 a2;unfold TO17 at vt;replace vt:=hid vt;replace bq:=hid (X05 bq.out q);replace x0:=hid (XFa x0.out q);obtain⟨M,pp,cp,y,m9,m1,_,hM,k⟩:=XGj rt;obtain⟨h9,A,B,_,g⟩:=XGg (M:=M) (a:= .slice pp t.pend.length cp) (b:= .bool t.ended) (c:= .bool t.shut) m9
 rw[←y] at h9 g;have vm:=wx_M m9 m1;unfold TO15 at vm;replace vm:=hid vm;replace g:=hid g;replace hM:=hid hM;replace h9:=hid h9;have D:(0:Int)≤(c:Int)+(t.pend.length:Int):=by omega
 have E:(c:Int)+(t.pend.length:Int)≤288:=by omega
 clear q a1 a2 d y m9 m1 k A B rt hW;go_upto_region 2 with(refine stX x0.out vt.out fun w2 p=>?_);have rm:=XFr (XFm hM.out (XFf (J:=Jn 1 J w) p (.inr ⟨by omega,by omega⟩)));replace x0:=hid (XFg p vt.out);replace bq:=hid (p.below _ _ (by omega) bq.out);have c9:=XFe x0.out 9 _ h9.out;have C:=hid (f.out (.agg M) w2.drew (tabs_next n.out (X05 bq.out (Below.refl _ _).drew)) (X0d rm (Below.refl _ _).drew));clear p rm hM vt n f
 refine wp_region_held_drew (S:=fun W=>Bx Tryz.prog W w.heap.size XT 48∧W.cell? ⟨w.heap.size,9,none⟩=some (.slice pp t.pend.length cp)) (by kernel_rfl) ⟨XFa x0.out (Below.refl _ _).drew,c9⟩ (fun hS=>?_);refine' tk 0 rfl hS ?_;try simp only[putA]
 refine' tkM 1 rfl (fun _ h=>h.1) 0 vm.out g.out hS ?_;try simp only[putA]
 refine' tk 3 rfl hS ?_;try simp only[putA]
 refine' tk 4 rfl hS ?_;try simp only[putA]
 refine' tk 5 rfl hS ?_;try simp only[putA]
 refine rdy 2 rfl fun K hK=>?_;go_simp;go_at_call 47;refine C.out.mono ?_;rintro e w3 ⟨rfl,q⟩;go_wp2_with fail;refine hK.out _ _ ⟨XFa hS.1 q,XFe (XFa hS.1 q) 9 _ h9.out⟩ (fun hSn=>?_);clear hK K hS;have hS:=hSn;clear hSn;try simp only[putA]
 replace bq:=hid (X05 (X05 bq.out (Below.refl _ _).drew) q);clear q c9;refine' tk 6 rfl hS ?_;try simp only[putA]
 refine' tk 7 rfl hS ?_;try simp only[putA]
 refine wpAnyH_done (by kernel_rfl) ?_ _;clear hS;go_wp2_with fail;go_ret;exact⟨by simp;rw[IntKind.wrap_i64];omega,bq.out⟩
open Go.RowKit Go.Lib
theorem XG8:StepC17:=XGQ XdF XyK
theorem XGb:CanC17:=XGP XG8
end Go.Proofs.YtkofnpkopbnocaaGreatDoor
