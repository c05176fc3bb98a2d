import Derived.Test.YtkofnpkopbnocaaGreatDoorTk
import Derived.Test.YtkofnpkopbnocaaGreatDoorMaAP
import Derived.Test.YtkofnpkopbnocaaGreatDoorFoP
import Derived.Test.YtkofnpkopbnocaaGreatDoorNoQ
import Derived.Test.YtkofnpkopbnocaaGreatDoorSgP
import Derived.Test.YtkofnpkopbnocaaGreatDoorFrP
import Derived.Test.YtkofnpkopbnocaaGreatDoorMaW0
import Derived.Test.YtkofnpkopbnocaaGreatDoorBasP
import Derived.Test.YtkofnpkopbnocaaGreatDoorMaBP
import Derived.Deep.RegionHeld3
import Derived.WalkKit
import Derived.Deep.RegionHeld
import Derived.Deep.LoopGhost
import Derived.Deep.DeepCutAuto
import Derived.OrdersHeld
set_option maxRecDepth 100000
set_option maxHeartbeats 12800000
namespace Go.Proofs.YtkofnpkopbnocaaGreatDoor
set_option linter.unusedSimpArgs false
set_option linter.unusedVariables false
open Go.RowKit Go.Lib
open Mch (MS)
theorem Xps{s:Clu.CS}(h:Sgm.saneB [] s=true):s=Clu.zero:=by
 have h1:=X5k h
 unfold Sgm.saneB Clu.saneB at h
 simp [h1] at h
 exact h
theorem Xpt(l:List Int)(s:Clu.CS)(r:Int):(Sgm.feedI l s r).2.length≤32:=by
 rw[Xv3]
 have h:=Xy6 l s
 unfold Sgm.stepI
 split
 ·exact h
 ·simp
theorem Xxj{m:MS}(h:Mch.Sane m)(h4:m.kind=4):m= { Mch.bare 4 with c:=m.c } :=by
 have hd:=h.d0.resolve_left (by omega)
 have hn:=(h.n0.resolve_left (by omega)).resolve_left (by omega)
 have hg:=h.g0.resolve_left (by omega)
 have hs:=h.g
 rw[hg.1] at hs
 have hz:=Xps hs
 obtain⟨k,d,n,g,s,c⟩:=m
 simp only at *
 subst h4 hd hn hz
 rw[hg.1]
 rfl
theorem Xji(v:Value)(m:MS)(x:Int)(w:World)(hT:Tabs w)(h0:m.kind=0)(z:Mch.Sane m)(hv:RM w v m):Calls Tryz.prog 83 #[v, .int .i64 x] w (FedM v (Mch.feedK m x) w):=by
 have A:=hv
 obtain⟨vn,vg,vc,rfl,u,t,r⟩:=hv
 obtain⟨pn,cn,rfl⟩:=X0b u
 obtain⟨pg,cg,rfl⟩:=X0b t
 obtain⟨pc,cc,rfl⟩:=X0b r
 have j:=X0g w #[.int .i64 m.kind, .string ⟨m.d.toArray⟩, .slice pn m.n.length cn, .slice pg m.g.length cg, .bool m.s.on, .int .i64 m.s.kind, .bool m.s.pict, .bool m.s.odd, .slice pc m.c.length cc] 46
 have i:=X0l j (.cells (bare9 0) 46)
 have f:=X0g (w.alloc (.cells #[.int .i64 m.kind, .string ⟨m.d.toArray⟩, .slice pn m.n.length cn, .slice pg m.g.length cg, .bool m.s.on, .int .i64 m.s.kind, .bool m.s.pict, .bool m.s.odd, .slice pc m.c.length cc] 46)) (bare9 0) 46
 rw[World.size_alloc] at f
 have h:=(X04 w (.cells #[.int .i64 m.kind, .string ⟨m.d.toArray⟩, .slice pn m.n.length cn, .slice pg m.g.length cg, .bool m.s.on, .int .i64 m.s.kind, .bool m.s.pict, .bool m.s.odd, .slice pc m.c.length cc] 46)).alloc (by simp) (.cells (bare9 0) 46)
 obtain⟨W,hW⟩: ∃W,(w.alloc (.cells #[.int .i64 m.kind, .string ⟨m.d.toArray⟩, .slice pn m.n.length cn, .slice pg m.g.length cg, .bool m.s.on, .int .i64 m.s.kind, .bool m.s.pict, .bool m.s.odd, .slice pc m.c.length cc] 46)).alloc (.cells (bare9 0) 46)=W:=⟨_,rfl⟩
 rw[hW] at i f h
 clear j
 replace hW:=hid hW
 obtain⟨F1,F2,hF⟩: ∃a b,Dec.feedL m.d (Mch.X2G x)=(a,b):=⟨_,_,rfl⟩
 have y:Mch.feedK m x=({ Mch.bare 0 with d:=F1 },F2):=by unfold Mch.feedK;rw[if_pos h0,hF]
 rw[y]
 have N:=XAa x
 have k:=fun W' B=>Tx.X7H ⟨m.d.toArray⟩ (Mch.X2G x) W' B
 rw[Dec.Xh1,hF] at k
 dsimp only at k
 have p:=XyL hT h
 unfold mchV strV
 replace k:=hid k
 replace p:=hid p
 replace i:=hid i
 replace f:=hid f
 replace h:=hid h
 replace A:=hid A
 replace u:=hid u
 replace t:=hid t
 replace r:=hid r
 replace h0:=hid h0
 replace z:=hid z
 clear hF y hT
 go_enter Tryz.func83,Tryz.ntmps83
 go_upto_region 1 with(fail)
 rw[hW.out]
 obtain⟨k0,k1,k2,k3,k4,k5,k6,k7,k8⟩:=held9 i.out
 go_wp2_with (go_at_call 109;refine(k.out _ p.out).mono ?_;rintro e w3 ⟨vt,rfl,l,q3⟩;have l:=X0w (show OwnI _ vt F2 w3 from l) h.out.size;obtain⟨pt,ct,rfl⟩:=X0b (X0a l);have r3:=X0l (X02 f.out q3) (.cells #[.string ⟨F1.toArray⟩] 40);have b3:=hid ((X05 h.out q3).alloc (X05 h.out q3).size (.cells #[.string ⟨F1.toArray⟩] 40));have o3:=hid (X0B l (.cells #[.string ⟨F1.toArray⟩] 40));obtain⟨y0,y1,y2,y3,y4,y5,y6,y7,y8⟩:=held9 r3;have D:=X06 r3 0;have E:=X06 r3 1;have F:=X06 r3 2;have G:=X06 r3 3;have H:=X06 r3 4;have I:=X06 r3 5;have K:=X06 r3 6;have L:=X06 r3 7;have M:=X06 r3 8;replace r3:=hid r3;clear q3)
 have e3:=r3.out
 have o:=Xhb (v:=mchV m (.slice pn m.n.length cn) (.slice pg m.g.length cg) (.slice pc m.c.length cc)) (q:=({ Mch.bare 0 with d:=F1 },F2)) r3.out (Nat.le_succ w.heap.size) ⟨X3w _,X6V _ _ _⟩ ⟨X3w _,X6V _ _ _⟩ ⟨X3w _,X6V _ _ _⟩ ⟨X0a o3.out,XdI o3.out e3⟩ b3.out
 unfold set9 strV at o
 have C:=r3.out
 have n9:=X2g C (.int .i64 0) (.string ⟨F1.toArray⟩) nilV nilV (.bool false) (.int .i64 0) (.bool false) (.bool false) nilV
 unfold set9 at n9
 obtain⟨z0,z1,z2,z3,z4,z5,z6,z7,z8⟩:=held9 n9
 refine bodyPost_ret (v:= .tuple #[.agg #[(.int .i64 0),(.string ⟨F1.toArray⟩),nilV,nilV,(.bool false),(.int .i64 0),(.bool false),(.bool false),nilV], .slice pt F2.length ct]) ?_ rfl ?_
 ·simp [results,Tryz.results83,go_sem,z0,z1,z2,z3,z4,z5,z6,z7,z8]
 ·exact o
theorem Xpu(v:Value)(m:MS)(x:Int)(w:World)(h0:m.kind=1)(z:Mch.Sane m)(hsm:Mch.Small m)(hv:RM w v m):Calls Tryz.prog 84 #[v, .int .i64 x] w (FedM v (Mch.feedK m x) w):=by
 have A:=hv
 obtain⟨vn,vg,vc,rfl,p,u,t⟩:=hv
 obtain⟨pn,cn,rfl⟩:=X0b p
 obtain⟨pg,cg,rfl⟩:=X0b u
 obtain⟨pc,cc,rfl⟩:=X0b t
 have l:=X0g w #[.int .i64 m.kind, .string ⟨m.d.toArray⟩, .slice pn m.n.length cn, .slice pg m.g.length cg, .bool m.s.on, .int .i64 m.s.kind, .bool m.s.pict, .bool m.s.odd, .slice pc m.c.length cc] 46
 have j:=X0l l (.cells (bare9 0) 46)
 have i:=X0g (w.alloc (.cells #[.int .i64 m.kind, .string ⟨m.d.toArray⟩, .slice pn m.n.length cn, .slice pg m.g.length cg, .bool m.s.on, .int .i64 m.s.kind, .bool m.s.pict, .bool m.s.odd, .slice pc m.c.length cc] 46)) (bare9 0) 46
 rw[World.size_alloc] at i
 have f:=(X04 w (.cells #[.int .i64 m.kind, .string ⟨m.d.toArray⟩, .slice pn m.n.length cn, .slice pg m.g.length cg, .bool m.s.on, .int .i64 m.s.kind, .bool m.s.pict, .bool m.s.odd, .slice pc m.c.length cc] 46)).alloc (by simp) (.cells (bare9 0) 46)
 obtain⟨W,hW⟩: ∃W,(w.alloc (.cells #[.int .i64 m.kind, .string ⟨m.d.toArray⟩, .slice pn m.n.length cn, .slice pg m.g.length cg, .bool m.s.on, .int .i64 m.s.kind, .bool m.s.pict, .bool m.s.odd, .slice pc m.c.length cc] 46)).alloc (.cells (bare9 0) 46)=W:=⟨_,rfl⟩
 rw[hW] at j i f
 clear l
 replace hW:=hid hW
 obtain⟨F1,F2,hF⟩: ∃a b,Nor.feedI m.n x=(a,b):=⟨_,_,rfl⟩
 have y:Mch.feedK m x=({ Mch.bare 1 with n:=F1 },F2):=by unfold Mch.feedK;rw[if_neg (by omega),if_pos h0,hF]
 rw[y]
 have k:=fun W' (h:RI W' (.slice pn m.n.length cn) m.n)=>XjN _ m.n x W' (by have:=hsm.n;omega) h
 rw[hF] at k
 unfold Fed at k
 dsimp only at k
 have o:=X03 p f
 unfold mchV strV
 replace k:=hid k
 replace j:=hid j
 replace i:=hid i
 replace f:=hid f
 replace A:=hid A
 replace p:=hid p
 replace u:=hid u
 replace t:=hid t
 replace h0:=hid h0
 replace z:=hid z
 replace o:=hid o
 clear hF y
 go_enter Tryz.func84,Tryz.ntmps84
 go_upto_region 1 with(fail)
 rw[hW.out]
 obtain⟨k0,k1,k2,k3,k4,k5,k6,k7,k8⟩:=held9 j.out
 go_wp2_with (go_at_call 110;refine(k.out _ o.out).mono ?_;rintro e w3 ⟨va,vb,rfl,ha,hb,q3⟩;have ha:=X0w ha f.out.size;have hb:=X0w hb f.out.size;obtain⟨pa,ca,rfl⟩:=X0b (X0a ha);obtain⟨pb,cb,rfl⟩:=X0b (X0a hb);have r3:=X0l (X02 i.out q3) (.cells #[.slice pa F1.length ca] 41);have b3:=hid ((X05 f.out q3).alloc (X05 f.out q3).size (.cells #[.slice pa F1.length ca] 41));have a3:=hid (X0B ha (.cells #[.slice pa F1.length ca] 41));have o3:=hid (X0B hb (.cells #[.slice pa F1.length ca] 41));obtain⟨y0,y1,y2,y3,y4,y5,y6,y7,y8⟩:=held9 r3;have C:=X06 r3 0;have D:=X06 r3 1;have E:=X06 r3 2;have F:=X06 r3 3;have G:=X06 r3 4;have H:=X06 r3 5;have I:=X06 r3 6;have K:=X06 r3 7;have L:=X06 r3 8;replace r3:=hid r3;clear q3)
 have e3:=r3.out
 have r:=Xhb (v:=mchV m (.slice pn m.n.length cn) (.slice pg m.g.length cg) (.slice pc m.c.length cc)) (q:=({ Mch.bare 1 with n:=F1 },F2)) r3.out (Nat.le_succ w.heap.size) ⟨X0a a3.out,XdI a3.out e3⟩ ⟨X3w _,X6V _ _ _⟩ ⟨X3w _,X6V _ _ _⟩ ⟨X0a o3.out,XdI o3.out e3⟩ b3.out
 unfold set9 strV at r
 have B:=r3.out
 have n9:=X2g B (.int .i64 1) (.string ⟨#[]⟩) (.slice pa F1.length ca) nilV (.bool false) (.int .i64 0) (.bool false) (.bool false) nilV
 unfold set9 at n9
 obtain⟨z0,z1,z2,z3,z4,z5,z6,z7,z8⟩:=held9 n9
 refine bodyPost_ret (v:= .tuple #[.agg #[(.int .i64 1),(.string ⟨#[]⟩),(.slice pa F1.length ca),nilV,(.bool false),(.int .i64 0),(.bool false),(.bool false),nilV], .slice pb F2.length cb]) ?_ rfl ?_
 ·simp [results,Tryz.results84,go_sem,z0,z1,z2,z3,z4,z5,z6,z7,z8]
 ·exact r
theorem Xpv(v:Value)(m:MS)(x:Int)(w:World)(h0:m.kind=2)(z:Mch.Sane m)(hsm:Mch.Small m)(hx:I64 x)(hv:RM w v m):Calls Tryz.prog 85 #[v, .int .i64 x] w (FedM v (Mch.feedK m x) w):=by
 have A:=hv
 obtain⟨vn,vg,vc,rfl,p,u,t⟩:=hv
 obtain⟨pn,cn,rfl⟩:=X0b p
 obtain⟨pg,cg,rfl⟩:=X0b u
 obtain⟨pc,cc,rfl⟩:=X0b t
 have l:=X0g w #[.int .i64 m.kind, .string ⟨m.d.toArray⟩, .slice pn m.n.length cn, .slice pg m.g.length cg, .bool m.s.on, .int .i64 m.s.kind, .bool m.s.pict, .bool m.s.odd, .slice pc m.c.length cc] 46
 have j:=X0l l (.cells (bare9 0) 46)
 have i:=X0g (w.alloc (.cells #[.int .i64 m.kind, .string ⟨m.d.toArray⟩, .slice pn m.n.length cn, .slice pg m.g.length cg, .bool m.s.on, .int .i64 m.s.kind, .bool m.s.pict, .bool m.s.odd, .slice pc m.c.length cc] 46)) (bare9 0) 46
 rw[World.size_alloc] at i
 have f:=(X04 w (.cells #[.int .i64 m.kind, .string ⟨m.d.toArray⟩, .slice pn m.n.length cn, .slice pg m.g.length cg, .bool m.s.on, .int .i64 m.s.kind, .bool m.s.pict, .bool m.s.odd, .slice pc m.c.length cc] 46)).alloc (by simp) (.cells (bare9 0) 46)
 obtain⟨W,hW⟩: ∃W,(w.alloc (.cells #[.int .i64 m.kind, .string ⟨m.d.toArray⟩, .slice pn m.n.length cn, .slice pg m.g.length cg, .bool m.s.on, .int .i64 m.s.kind, .bool m.s.pict, .bool m.s.odd, .slice pc m.c.length cc] 46)).alloc (.cells (bare9 0) 46)=W:=⟨_,rfl⟩
 rw[hW] at j i f
 clear l
 replace hW:=hid hW
 obtain⟨F1,F2,hF⟩: ∃a b,Fol.feedI m.n x=(a,b):=⟨_,_,rfl⟩
 have y:Mch.feedK m x=({ Mch.bare 2 with n:=F1 },F2):=by unfold Mch.feedK;rw[if_neg (by omega),if_neg (by omega),if_pos h0,hF]
 rw[y]
 have k:=fun W' (h:RI W' (.slice pn m.n.length cn) m.n)=>Xfl _ m.n x W' (by have:=hsm.n;omega) h hx
 rw[hF] at k
 unfold Fed at k
 dsimp only at k
 have o:=X03 p f
 unfold mchV strV
 replace k:=hid k
 replace j:=hid j
 replace i:=hid i
 replace f:=hid f
 replace A:=hid A
 replace p:=hid p
 replace u:=hid u
 replace t:=hid t
 replace h0:=hid h0
 replace z:=hid z
 replace o:=hid o
 clear hF y
 go_enter Tryz.func85,Tryz.ntmps85
 go_upto_region 1 with(fail)
 rw[hW.out]
 obtain⟨k0,k1,k2,k3,k4,k5,k6,k7,k8⟩:=held9 j.out
 go_wp2_with (go_at_call 111;refine(k.out _ o.out).mono ?_;rintro e w3 ⟨va,vb,rfl,ha,hb,q3⟩;have ha:=X0w ha f.out.size;have hb:=X0w hb f.out.size;obtain⟨pa,ca,rfl⟩:=X0b (X0a ha);obtain⟨pb,cb,rfl⟩:=X0b (X0a hb);have r3:=X0l (X02 i.out q3) (.cells #[.slice pa F1.length ca] 41);have b3:=hid ((X05 f.out q3).alloc (X05 f.out q3).size (.cells #[.slice pa F1.length ca] 41));have a3:=hid (X0B ha (.cells #[.slice pa F1.length ca] 41));have o3:=hid (X0B hb (.cells #[.slice pa F1.length ca] 41));obtain⟨y0,y1,y2,y3,y4,y5,y6,y7,y8⟩:=held9 r3;have C:=X06 r3 0;have D:=X06 r3 1;have E:=X06 r3 2;have F:=X06 r3 3;have G:=X06 r3 4;have H:=X06 r3 5;have I:=X06 r3 6;have K:=X06 r3 7;have L:=X06 r3 8;replace r3:=hid r3;clear q3)
 have e3:=r3.out
 have r:=Xhb (v:=mchV m (.slice pn m.n.length cn) (.slice pg m.g.length cg) (.slice pc m.c.length cc)) (q:=({ Mch.bare 2 with n:=F1 },F2)) r3.out (Nat.le_succ w.heap.size) ⟨X0a a3.out,XdI a3.out e3⟩ ⟨X3w _,X6V _ _ _⟩ ⟨X3w _,X6V _ _ _⟩ ⟨X0a o3.out,XdI o3.out e3⟩ b3.out
 unfold set9 strV at r
 have B:=r3.out
 have n9:=X2g B (.int .i64 2) (.string ⟨#[]⟩) (.slice pa F1.length ca) nilV (.bool false) (.int .i64 0) (.bool false) (.bool false) nilV
 unfold set9 at n9
 obtain⟨z0,z1,z2,z3,z4,z5,z6,z7,z8⟩:=held9 n9
 refine bodyPost_ret (v:= .tuple #[.agg #[(.int .i64 2),(.string ⟨#[]⟩),(.slice pa F1.length ca),nilV,(.bool false),(.int .i64 0),(.bool false),(.bool false),nilV], .slice pb F2.length cb]) ?_ rfl ?_
 ·simp [results,Tryz.results85,go_sem,z0,z1,z2,z3,z4,z5,z6,z7,z8]
 ·exact r
theorem Xh9(v:Value)(m:MS)(x:Int)(w:World)(h0:m.kind=3)(P:Mch.Sane m)(hsm:Mch.Small m)(hv:RM w v m):Calls Tryz.prog 86 #[v, .int .i64 x] w (FedM v (Mch.feedK m x) w):=by
 have R:=hv
 obtain⟨vn,vg,vc,rfl,B,p,A⟩:=hv
 obtain⟨pn,cn,rfl⟩:=X0b B
 obtain⟨pg,cg,rfl⟩:=X0b p
 obtain⟨pc,cc,rfl⟩:=X0b A
 have l:=X0g w #[.int .i64 m.kind, .string ⟨m.d.toArray⟩, .slice pn m.n.length cn, .slice pg m.g.length cg, .bool m.s.on, .int .i64 m.s.kind, .bool m.s.pict, .bool m.s.odd, .slice pc m.c.length cc] 46
 have j:=X0l l (.cells (bare9 0) 46)
 have f:=X0g (w.alloc (.cells #[.int .i64 m.kind, .string ⟨m.d.toArray⟩, .slice pn m.n.length cn, .slice pg m.g.length cg, .bool m.s.on, .int .i64 m.s.kind, .bool m.s.pict, .bool m.s.odd, .slice pc m.c.length cc] 46)) (bare9 0) 46
 rw[World.size_alloc] at f
 have i:=(X04 w (.cells #[.int .i64 m.kind, .string ⟨m.d.toArray⟩, .slice pn m.n.length cn, .slice pg m.g.length cg, .bool m.s.on, .int .i64 m.s.kind, .bool m.s.pict, .bool m.s.odd, .slice pc m.c.length cc] 46)).alloc (by simp) (.cells (bare9 0) 46)
 obtain⟨W,hW⟩: ∃W,(w.alloc (.cells #[.int .i64 m.kind, .string ⟨m.d.toArray⟩, .slice pn m.n.length cn, .slice pg m.g.length cg, .bool m.s.on, .int .i64 m.s.kind, .bool m.s.pict, .bool m.s.odd, .slice pc m.c.length cc] 46)).alloc (.cells (bare9 0) 46)=W:=⟨_,rfl⟩
 rw[hW] at j f i
 clear l
 replace hW:=hid hW
 obtain⟨G1,S1,T1,hF⟩: ∃a b c,Sgm.feedI m.g m.s x=((a,b),c):=⟨_,_,_,rfl⟩
 have O:Mch.feedK m x=({ Mch.bare 3 with g:=G1,s:=S1 },Mch.cutOf T1):=by unfold Mch.feedK;rw[if_neg (by omega),if_neg (by omega),if_neg (by omega),if_pos h0,hF]
 rw[O]
 have t:T1.length≤1000:=by
  have h:=Xpt m.g m.s x
  rw[hF] at h
  dsimp only at h
  omega
 have k:=fun W' (h:RI W' (.slice pg m.g.length cg) m.g)=>Xqm _ m.g m.s x W' (by have:=hsm.g;omega) h
 rw[hF] at k
 obtain⟨s1,s2,s3,s4⟩:=S1
 unfold XyR sgV at k
 dsimp only at k
 have y:=fun W' u (h:RI W' u T1)=>X9V u T1 W' t h
 have o:=X03 p i
 have z:=X1h f
 unfold mchV strV
 replace k:=hid k
 replace y:=hid y
 replace j:=hid j
 replace f:=hid f
 replace i:=hid i
 replace R:=hid R
 replace B:=hid B
 replace p:=hid p
 replace A:=hid A
 replace h0:=hid h0
 replace P:=hid P
 replace o:=hid o
 replace t:=hid t
 replace z:=hid z
 clear hF O
 go_enter Tryz.func86,Tryz.ntmps86
 go_upto_region 1 with(fail)
 rw[hW.out]
 obtain⟨k0,k1,k2,k3,k4,k5,k6,k7,k8⟩:=held9 j.out
 go_wp2_with fail
 refine(k.out _ o.out).mono ?_
 rintro e w3 ⟨va,vb,rfl,ha,hb,q3⟩
 have ha:=X0w ha i.out.size
 have hb:=X0w hb i.out.size
 obtain⟨pa,ca,rfl⟩:=X0b (X0a ha)
 obtain⟨pb,cb,rfl⟩:=X0b (X0a hb)
 have T:=hid (Nat.lt_of_lt_of_le z.out q3.size)
 have r3:=X0l (X02 f.out q3) (.cells #[.slice pa G1.length ca, .bool s1, .int .i64 s2, .bool s3, .bool s4] 44)
 have b3:=hid ((X05 i.out q3).alloc (X05 i.out q3).size (.cells #[.slice pa G1.length ca, .bool s1, .int .i64 s2, .bool s3, .bool s4] 44))
 have a3:=hid (X0B ha (.cells #[.slice pa G1.length ca, .bool s1, .int .i64 s2, .bool s3, .bool s4] 44))
 have t3:=hid (X0B hb (.cells #[.slice pa G1.length ca, .bool s1, .int .i64 s2, .bool s3, .bool s4] 44))
 have x3:=hid (X0g w3 #[.slice pa G1.length ca, .bool s1, .int .i64 s2, .bool s3, .bool s4] 44)
 obtain⟨y0,y1,y2,y3,y4,y5,y6,y7,y8⟩:=held9 r3
 have D:=X06 r3 0
 have E:=X06 r3 1
 have F:=X06 r3 2
 have G:=X06 r3 3
 have H:=X06 r3 4
 have I:=X06 r3 5
 have L:=X06 r3 6
 have M:=X06 r3 7
 have N:=X06 r3 8
 replace r3:=hid r3
 clear q3
 clear ha hb
 go_upto_region 2 with(fail)
 clear y0 y1 y2 y3 y4 y5 y6 y7 y8 D E F G H I L M N k0 k1 k2 k3 k4 k5 k6 k7 k8
 obtain⟨w4,C⟩: ∃w4,w3.alloc (.cells #[.slice pa G1.length ca, .bool s1, .int .i64 s2, .bool s3, .bool s4] 44)=w4:=⟨_,rfl⟩
 rw[C] at r3 b3 a3 t3 x3 ⊢
 replace C:=hid C
 have t4:=hid (X3l (X0a t3.out))
 refine wp_region_held_drew (S:=fun w'=>w'.cell? ⟨w3.heap.size,0,none⟩=some (.slice pa G1.length ca)∧w'.cell? ⟨w3.heap.size,1,none⟩=some (.bool s1)∧w'.cell? ⟨w3.heap.size,2,none⟩=some (.int .i64 s2)∧w'.cell? ⟨w3.heap.size,3,none⟩=some (.bool s3)∧w'.cell? ⟨w3.heap.size,4,none⟩=some (.bool s4)) (by kernel_rfl) (Xhc x3.out) (fun hS=>?_)
 refine' tk 0 rfl hS ?_
 try simp only[putA]
 refine' tk 1 rfl hS ?_
 try simp only[putA]
 refine' tk 2 rfl hS ?_
 try simp only[putA]
 refine rdy 3 rfl fun K hK=>?_
 go_simp
 go_at_call 113
 refine(y.out _ _ t4.out).mono ?_
 rintro e w5 ⟨vt,rfl,ht,q5⟩
 obtain⟨pt,ct,rfl⟩:=X0b (X0a ht)
 have r5:=X02 (w:=w4.drew) r3.out q5
 have b5:=hid (X05 (show Below w.heap.size w w4.drew from b3.out.drew) q5)
 have a5:=hid (X0x (w:=w4.drew) a3.out q5)
 have t5:=hid (X0w ht (show w.heap.size≤w4.drew.heap.size from b3.out.size))
 have x5:=hid (X02 (w:=w4.drew) x3.out q5)
 clear q5 ht
 go_wp2_with fail
 refine hK.out _ _ (Xhc x5.out) (fun hSn=>?_)
 clear hS
 have hS:=hSn
 clear hSn
 clear hK K
 try simp only[putA]
 obtain⟨y0,y1,y2,y3,y4,y5,y6,y7,y8⟩:=held9 r5
 have D:=X06 r5 0
 have E:=X06 r5 1
 have F:=X06 r5 2
 have G:=X06 r5 3
 have H:=X06 r5 4
 have I:=X06 r5 5
 have L:=X06 r5 6
 have M:=X06 r5 7
 have N:=X06 r5 8
 replace r5:=hid r5
 refine rdy 4 rfl fun K hK=>?_
 go_simp
 go_wp2_with fail
 refine hK.out _ _ (by have h:=X52 x5.out (show w3.heap.size≠w.heap.size+1 by have:=T.out;omega) (.int .i64 3) (.string ⟨#[]⟩) nilV (.slice pa G1.length ca) (.bool s1) (.int .i64 s2) (.bool s3) (.bool s4) nilV;unfold set9 at h;exact Xhc h) (fun hSn=>?_)
 clear hS
 have hS:=hSn
 clear hSn
 clear hK K
 try simp only[putA]
 refine' tk 5 rfl hS ?_
 try simp only[putA]
 refine wpAnyH_done (by kernel_rfl) ?_ _
 go_wp2_with fail
 have e5:=r5.out
 have r:=Xhb (v:=mchV m (.slice pn m.n.length cn) (.slice pg m.g.length cg) (.slice pc m.c.length cc)) (q:=({ Mch.bare 3 with g:=G1,s:=⟨s1,s2,s3,s4⟩ },Mch.cutOf T1)) r5.out (Nat.le_succ w.heap.size) ⟨X3w _,X6V _ _ _⟩ ⟨X0a a5.out,XdI a5.out e5⟩ ⟨X3w _,X6V _ _ _⟩ ⟨X0a t5.out,XdI t5.out e5⟩ b5.out
 unfold set9 strV at r
 have U:=r5.out
 have n9:=X2g U (.int .i64 3) (.string ⟨#[]⟩) nilV (.slice pa G1.length ca) (.bool s1) (.int .i64 s2) (.bool s3) (.bool s4) nilV
 unfold set9 at n9
 obtain⟨z0,z1,z2,z3,z4,z5,z6,z7,z8⟩:=held9 n9
 refine bodyPost_ret (v:= .tuple #[.agg #[(.int .i64 3),(.string ⟨#[]⟩),nilV,(.slice pa G1.length ca),(.bool s1),(.int .i64 s2),(.bool s3),(.bool s4),nilV], .slice pt (Mch.cutOf T1).length ct]) ?_ rfl ?_
 ·simp [results,Tryz.results86,go_sem,z0,z1,z2,z3,z4,z5,z6,z7,z8]
 ·exact r
theorem Xtw(v:Value)(m:MS)(w:World)(h4:m.kind=4)(z:Mch.Sane m)(hsm:Mch.Small m)(hv:RM w v m):Calls Tryz.prog 87 #[v, .int .i64 (-1)] w (FedM v (Mch.feedK m (-1)) w):=by
 have D:=hv
 obtain⟨vn,vg,vc,rfl,B,A,r⟩:=hv
 obtain⟨pn,cn,rfl⟩:=X0b B
 obtain⟨pg,cg,rfl⟩:=X0b A
 obtain⟨pc,cc,rfl⟩:=X0b r
 have l:=X0g w #[.int .i64 m.kind, .string ⟨m.d.toArray⟩, .slice pn m.n.length cn, .slice pg m.g.length cg, .bool m.s.on, .int .i64 m.s.kind, .bool m.s.pict, .bool m.s.odd, .slice pc m.c.length cc] 46
 have b:=X0l l (.cells (bare9 0) 46)
 have f:=X0g (w.alloc (.cells #[.int .i64 m.kind, .string ⟨m.d.toArray⟩, .slice pn m.n.length cn, .slice pg m.g.length cg, .bool m.s.on, .int .i64 m.s.kind, .bool m.s.pict, .bool m.s.odd, .slice pc m.c.length cc] 46)) (bare9 0) 46
 rw[World.size_alloc] at f
 have k:=(X04 w (.cells #[.int .i64 m.kind, .string ⟨m.d.toArray⟩, .slice pn m.n.length cn, .slice pg m.g.length cg, .bool m.s.on, .int .i64 m.s.kind, .bool m.s.pict, .bool m.s.odd, .slice pc m.c.length cc] 46)).alloc (by simp) (.cells (bare9 0) 46)
 obtain⟨W,hW⟩: ∃W,(w.alloc (.cells #[.int .i64 m.kind, .string ⟨m.d.toArray⟩, .slice pn m.n.length cn, .slice pg m.g.length cg, .bool m.s.on, .int .i64 m.s.kind, .bool m.s.pict, .bool m.s.odd, .slice pc m.c.length cc] 46)).alloc (.cells (bare9 0) 46)=W:=⟨_,rfl⟩
 rw[hW] at b f k
 clear l
 replace hW:=hid hW
 have C:Mch.feedK m (-1)=(Mch.bare 4,Mch.X0M (Frm.putF m.c)):=by
  unfold Mch.feedK
  rw[if_neg (by omega),if_neg (by omega),if_neg (by omega),if_neg (by omega),if_pos rfl]
 rw[C]
 clear C
 have o:=X03 r k
 have t:=z.c
 have j:=fun W' (h:RI W' (.slice pc m.c.length cc) m.c)=>Xdb _ m.c W' (by omega) h
 have i:=fun W'=>X7x 4 W'
 rw[if_pos (by omega)] at i
 have y:(Frm.putF m.c).length≤100000:=by have:=Mch.X9Y m.c;omega
 have p:=fun W' u (h:X0v W' u (Frm.putF m.c))=>XlF u (Frm.putF m.c) W' y h
 unfold ToldB at j
 unfold Makes at p
 unfold mchV strV
 replace j:=hid j
 replace i:=hid i
 replace p:=hid p
 replace b:=hid b
 replace f:=hid f
 replace k:=hid k
 replace D:=hid D
 replace B:=hid B
 replace A:=hid A
 replace r:=hid r
 replace h4:=hid h4
 replace z:=hid z
 replace o:=hid o
 replace y:=hid y
 replace t:=hid t
 go_enter Tryz.func87,Tryz.ntmps87
 go_upto_region 2 with(fail)
 rw[hW.out]
 have F:=hid (X00 b.out 8 _ rfl)
 refine wp_region_held_drew (S:=fun w'=>w'.cell? ⟨w.heap.size,8,none⟩=some (.slice pc m.c.length cc)) (by kernel_rfl) (F.out) (fun hS=>?_)
 refine' tk 1 rfl hS ?_
 try simp only[putA]
 refine' tk 2 rfl hS ?_
 try simp only[putA]
 refine rdy 0 rfl fun K hK=>?_
 go_simp
 go_at_call 52
 refine(i.out _).mono ?_
 rintro e w2 ⟨rfl,q2⟩
 have r2:=hid (X02 (w:=W.drew) f.out q2)
 have v2:=hid (X03 (X3l o.out) q2)
 have b2:=hid (X05 (show Below w.heap.size w W.drew from k.out.drew) q2)
 have x2:=hid (X02 (w:=W.drew) b.out q2)
 clear q2
 go_wp2_with fail
 refine hK.out _ _ (X00 x2.out 8 _ rfl) (fun hSn=>?_)
 clear hS
 have hS:=hSn
 clear hSn
 clear hK K
 try simp only[putA]
 refine rdy 3 rfl fun K hK=>?_
 go_simp
 go_at_call 115
 refine(j.out _ v2.out).mono ?_
 rintro e w3 ⟨vp,rfl,rp,q3⟩
 obtain⟨pp,cp,rfl⟩:=X0o rp
 replace rp:=hid rp
 have r3:=hid (X02 r2.out q3)
 have b3:=hid (X05 b2.out q3)
 have x3:=hid (X02 x2.out q3)
 clear q3
 go_wp2_with fail
 refine hK.out _ _ (X00 x3.out 8 _ rfl) (fun hSn=>?_)
 clear hS
 have hS:=hSn
 clear hSn
 clear hK K
 try simp only[putA]
 refine rdy 4 rfl fun K hK=>?_
 go_simp
 go_at_call 114
 refine(p.out _ _ rp.out).mono ?_
 rintro e w4 ⟨vt,rfl,rt,q4⟩
 obtain⟨pt,ct,rfl⟩:=X0b (X0a rt)
 have E:=hid (X0w rt b3.out.size)
 have r4:=X02 r3.out q4
 have b4:=hid (X05 b3.out q4)
 have x4:=hid (X02 x3.out q4)
 clear q4 rt
 go_wp2_with fail
 refine hK.out _ _ (X00 x4.out 8 _ rfl) (fun hSn=>?_)
 clear hS
 have hS:=hSn
 clear hSn
 clear hK K
 try simp only[putA]
 obtain⟨y0,y1,y2,y3,y4,y5,y6,y7,y8⟩:=held9 r4
 have H:=X06 r4 0
 have I:=X06 r4 1
 have L:=X06 r4 2
 have M:=X06 r4 3
 have N:=X06 r4 4
 have O:=X06 r4 5
 have P:=X06 r4 6
 have R:=X06 r4 7
 have T:=X06 r4 8
 replace r4:=hid r4
 refine rdy 5 rfl fun K hK=>?_
 go_simp
 go_wp2_with fail
 refine hK.out _ _ (by show (set9 w4 (w.heap.size+1) (.int .i64 4) (.string ⟨#[]⟩) nilV nilV (.bool false) (.int .i64 0) (.bool false) (.bool false) nilV).cell? _=_;exact(World.cell?_of_block (w:=w4) (a:=⟨w.heap.size,8,none⟩) (X2n w4 (w.heap.size+1) _ _ _ _ _ _ _ _ _ _ (by simp))).trans (X00 x4.out 8 _ rfl)) (fun hSn=>?_)
 clear hS
 have hS:=hSn
 clear hSn
 clear hK K
 try simp only[putA]
 refine' tk 6 rfl hS ?_
 try simp only[putA]
 refine wpAnyH_done (by kernel_rfl) ?_ _
 go_wp2_with fail
 have e4:=r4.out
 have x:=Xhb (v:=mchV m (.slice pn m.n.length cn) (.slice pg m.g.length cg) (.slice pc m.c.length cc)) (q:=(Mch.bare 4,Mch.X0M (Frm.putF m.c))) r4.out (Nat.le_succ w.heap.size) ⟨X3w _,X6V _ _ _⟩ ⟨X3w _,X6V _ _ _⟩ ⟨X3w _,X6V _ _ _⟩ ⟨X0a E.out,XdI E.out e4⟩ b4.out
 unfold set9 strV at x
 have G:=r4.out
 have n9:=X2g G (.int .i64 4) (.string ⟨#[]⟩) nilV nilV (.bool false) (.int .i64 0) (.bool false) (.bool false) nilV
 unfold set9 at n9
 obtain⟨z0,z1,z2,z3,z4,z5,z6,z7,z8⟩:=held9 n9
 refine bodyPost_ret (v:= .tuple #[.agg #[(.int .i64 4),(.string ⟨#[]⟩),nilV,nilV,(.bool false),(.int .i64 0),(.bool false),(.bool false),nilV], .slice pt (Mch.X0M (Frm.putF m.c)).length ct]) ?_ rfl ?_
 ·simp [results,Tryz.results87,go_sem,z0,z1,z2,z3,z4,z5,z6,z7,z8]
 ·exact x
theorem XlG(v:Value)(m:MS)(x:Int)(w:World)(h4:m.kind=4)(hx:x≠ -1)(u:Mch.Sane m)(hsm:Mch.Small m)(hv:RM w v m):Calls Tryz.prog 87 #[v, .int .i64 x] w (FedM v (Mch.feedK m x) w):=by
 obtain⟨i0,hi,V,a0,a1⟩:=info_parts X2p
 have I:=hv
 obtain⟨vn,vg,vc,rfl,D,B,y⟩:=hv
 obtain⟨pn,cn,rfl⟩:=X0b D
 obtain⟨pg,cg,rfl⟩:=X0b B
 obtain⟨pc,cc,rfl⟩:=X0b y
 have p:=X0g w #[.int .i64 m.kind, .string ⟨m.d.toArray⟩, .slice pn m.n.length cn, .slice pg m.g.length cg, .bool m.s.on, .int .i64 m.s.kind, .bool m.s.pict, .bool m.s.odd, .slice pc m.c.length cc] 46
 have i:=X0l p (.cells (bare9 0) 46)
 have f:=X0g (w.alloc (.cells #[.int .i64 m.kind, .string ⟨m.d.toArray⟩, .slice pn m.n.length cn, .slice pg m.g.length cg, .bool m.s.on, .int .i64 m.s.kind, .bool m.s.pict, .bool m.s.odd, .slice pc m.c.length cc] 46)) (bare9 0) 46
 rw[World.size_alloc] at f
 have k:=(X04 w (.cells #[.int .i64 m.kind, .string ⟨m.d.toArray⟩, .slice pn m.n.length cn, .slice pg m.g.length cg, .bool m.s.on, .int .i64 m.s.kind, .bool m.s.pict, .bool m.s.odd, .slice pc m.c.length cc] 46)).alloc (by simp) (.cells (bare9 0) 46)
 obtain⟨W,hW⟩: ∃W,(w.alloc (.cells #[.int .i64 m.kind, .string ⟨m.d.toArray⟩, .slice pn m.n.length cn, .slice pg m.g.length cg, .bool m.s.on, .int .i64 m.s.kind, .bool m.s.pict, .bool m.s.odd, .slice pc m.c.length cc] 46)).alloc (.cells (bare9 0) 46)=W:=⟨_,rfl⟩
 rw[hW] at i f k
 clear p
 replace hW:=hid hW
 have G:Mch.feedK m x=({ Mch.bare 4 with c:=if m.c.length=32 then m.c else m.c++ [x] },[]):=by
  unfold Mch.feedK
  rw[if_neg (by omega),if_neg (by omega),if_neg (by omega),if_neg (by omega),if_neg hx]
  by_cases h:m.c.length=32
  ·rw[if_pos h,if_pos h,←Xxj u h4]
  ·rw[if_neg h,if_neg h]
 obtain⟨C,hC⟩: ∃C,(if m.c.length=32 then m.c else m.c++ [x])=C:=⟨_,rfl⟩
 rw[G,hC]
 clear G
 have r:=X03 y k
 have a6:=u.c
 have t:=fun W' (h:RI W' (.slice pc m.c.length cc) m.c)=>Xqh _ m.c W' (by omega) h
 have tx:(x == -1)=false:=beq_eq_false_iff_ne.2 hx
 unfold Makes at t
 unfold mchV strV
 replace t:=hid t
 replace i:=hid i
 replace f:=hid f
 replace k:=hid k
 replace I:=hid I
 replace D:=hid D
 replace B:=hid B
 replace y:=hid y
 replace h4:=hid h4
 replace u:=hid u
 replace r:=hid r
 replace hx:=hid hx
 replace hC:=hid hC
 go_enter Tryz.func87,Tryz.ntmps87
 go_upto_region 3 with(fail)
 rw[hW.out]
 have U:=X00 i.out 8 _ rfl
 go_wp2_with fail
 refine(t.out _ r.out).mono ?_
 rintro e w2 ⟨va,rfl,ha,q2⟩
 have a2:=hid (X0w ha k.out.size)
 have b2:=hid (X05 k.out q2)
 have r2:=hid (X02 f.out q2)
 obtain⟨pa,ca,rfl⟩:=X0b (X0a ha)
 clear ha q2 U
 by_cases j:m.c.length=32
 ·have o:=hC.out
  rw[if_pos j] at o
  subst o
  clear hC
  have a4: ¬((m.c.length:Int)<32):=by omega
  have a5: ¬(m.c.length<32):=by omega
  replace j:=hid j
  have a:=r2.out
  obtain⟨y0,y1,y2,y3,y4,y5,y6,y7,y8⟩:=held9 a
  have K:=X06 a 0
  have L:=X06 a 1
  have M:=X06 a 2
  have N:=X06 a 3
  have O:=X06 a 4
  have P:=X06 a 5
  have R:=X06 a 6
  have S:=X06 a 7
  have T:=X06 a 8
  clear a
  go_wp2_with fail
  have e2:=r2.out
  have b:=Xhb (v:=mchV m (.slice pn m.n.length cn) (.slice pg m.g.length cg) (.slice pc m.c.length cc)) (q:=({ Mch.bare 4 with c:=m.c },[])) r2.out (Nat.le_succ w.heap.size) ⟨X3w _,X6V _ _ _⟩ ⟨X3w _,X6V _ _ _⟩ ⟨X0a a2.out,XdI a2.out e2⟩ ⟨X3w _,X6V _ _ _⟩ b2.out
  unfold set9 strV at b
  have E:=r2.out
  have n9:=X2g E (.int .i64 4) (.string ⟨#[]⟩) nilV nilV (.bool false) (.int .i64 0) (.bool false) (.bool false) (.slice pa m.c.length ca)
  unfold set9 at n9
  obtain⟨z0,z1,z2,z3,z4,z5,z6,z7,z8⟩:=held9 n9
  refine bodyPost_ret (v:= .tuple #[.agg #[(.int .i64 4),(.string ⟨#[]⟩),nilV,nilV,(.bool false),(.int .i64 0),(.bool false),(.bool false),(.slice pa m.c.length ca)], .slice none 0 0]) ?_ rfl ?_
  ·simp [results,Tryz.results87,go_sem,z0,z1,z2,z3,z4,z5,z6,z7,z8]
  ·exact b
 ·have o:=hC.out
  rw[if_neg j] at o
  subst o
  clear hC
  have a4:((m.c.length:Int)<32):=by omega
  have a5:(m.c.length<32):=by omega
  replace j:=hid j
  obtain⟨l4,A⟩: ∃l4,(m.c++ [x]).length=l4:=⟨_,rfl⟩
  replace A:=hid A
  have a3:=hid (X0B a2.out (.cells #[.int .i64 x] 3))
  have s3:=hid (X0Y (X0a (X0H w2.heap.size w2 [x] #[.int .i64 x] w2.heap.size 1 rfl (Nat.le_refl _) rfl rfl (by unfold maxLen;omega))))
  have b3:=hid (b2.out.alloc b2.out.size (.cells #[.int .i64 x] 3))
  have r3:=hid (X0l r2.out (.cells #[.int .i64 x] 3))
  go_wp2_with (at_builtin;refine X0c rfl _ _ 24 rfl w.heap.size 3 i0 (.int .i64 0) 8 Tryz.underlying24 hi V a0 a1 rfl _ _ _ rfl a3.out _ _ rfl s3.out (X0u _) (by simp only[List.length_map,List.length_append,List.length_take,List.length_drop,List.length_cons,List.length_nil,List.length_singleton];unfold maxLen;omega) (by simp only[List.length_map,List.length_append,List.length_take,List.length_drop,List.length_cons,List.length_nil,List.length_singleton];omega) b3.out.size ?_;intro v4 w4 H z;have o4:=hid (X0i (l:=m.c++ [x]) H (by(try simp);try omega) (by(try simp);try omega));have b4:=hid (X0k b3.out z b3.out.size a3.out (Nat.le_refl _));have r4:=X2B r3.out z (fun e=>(Xc0 a3.out r3.out) e.symm);obtain⟨p4,c4,F⟩:=X0b (X0a o4.out);rw[A.out] at F;subst F;obtain⟨y0,y1,y2,y3,y4,y5,y6,y7,y8⟩:=held9 r4;have K:=X06 r4 0;have L:=X06 r4 1;have M:=X06 r4 2;have N:=X06 r4 3;have O:=X06 r4 4;have P:=X06 r4 5;have R:=X06 r4 6;have S:=X06 r4 7;have T:=X06 r4 8;replace r4:=hid r4;clear H z)
  have e4:=r4.out
  have b:=Xhb (v:=mchV m (.slice pn m.n.length cn) (.slice pg m.g.length cg) (.slice pc m.c.length cc)) (q:=({ Mch.bare 4 with c:=m.c++ [x] },[])) r4.out (Nat.le_succ w.heap.size) ⟨X3w _,X6V _ _ _⟩ ⟨X3w _,X6V _ _ _⟩ ⟨X0a o4.out,XdI o4.out e4⟩ ⟨X3w _,X6V _ _ _⟩ b4.out
  unfold set9 strV at b
  have E:=r4.out
  have n9:=X2g E (.int .i64 4) (.string ⟨#[]⟩) nilV nilV (.bool false) (.int .i64 0) (.bool false) (.bool false) (.slice p4 l4 c4)
  unfold set9 at n9
  obtain⟨z0,z1,z2,z3,z4,z5,z6,z7,z8⟩:=held9 n9
  refine bodyPost_ret (v:= .tuple #[.agg #[(.int .i64 4),(.string ⟨#[]⟩),nilV,nilV,(.bool false),(.int .i64 0),(.bool false),(.bool false),(.slice p4 l4 c4)], .slice none 0 0]) ?_ rfl ?_
  ·simp [results,Tryz.results87,go_sem,z0,z1,z2,z3,z4,z5,z6,z7,z8]
  ·exact b
def RB15(w:World)(v:Value)(M:MS)(k:Nat)(wx:World):Prop:=
 ∃vn vg vc,Blk wx k #[.int .i64 M.kind,strV M.d,vn,vg, .bool M.s.on, .int .i64 M.s.kind, .bool M.s.pict, .bool M.s.odd,vc] 46∧RI wx vn M.n∧RI wx vg M.g∧RI wx vc M.c∧(∀j,OffM j v→OffM j (mchV M vn vg vc))∧Below w.heap.size w wx
theorem Xha{w w1:World}{v:Value}{M:MS}{k:Nat}{z0 z1 z2 z3 z4 z5 z6 z7 z8:Value}{pn pg pc:Option Addr}{cn cg cc:Nat}(hk:w.heap.size≤k)(hx:Blk w1 k #[z0,z1,z2,z3,z4,z5,z6,z7,z8] 46)
 (hr:RM w1 (.agg (X25 M.kind ⟨M.d.toArray⟩ pn M.n.length cn pg M.g.length cg M.s.on M.s.kind M.s.pict M.s.odd pc M.c.length cc)) M) (ho: ∀j,OffM j v→OffM j (.agg (X25 M.kind ⟨M.d.toArray⟩ pn M.n.length cn pg M.g.length cg M.s.on M.s.kind M.s.pict M.s.odd pc M.c.length cc)))
 (hok:OffM k v) (hb:Below w.heap.size w w1):
 RB15 w v M k (set9 w1 k (.int .i64 M.kind) (.string ⟨M.d.toArray⟩) (.slice pn M.n.length cn) (.slice pg M.g.length cg) (.bool M.s.on) (.int .i64 M.s.kind) (.bool M.s.pict) (.bool M.s.odd) (.slice pc M.c.length cc)):=by
 have hs:=X9Z w1 k (.int .i64 M.kind) (.string ⟨M.d.toArray⟩) (.slice pn M.n.length cn) (.slice pg M.g.length cg) (.bool M.s.on) (.int .i64 M.s.kind) (.bool M.s.pict) (.bool M.s.odd) (.slice pc M.c.length cc)
 have h:=XfD hr hs (fun j e=>e ▸ ho k hok)
 obtain⟨un,ug,uc,he,h1,h2,h3⟩:=h
 unfold mchV strV X25 at he
 have e1:un= .slice pn M.n.length cn∧ug= .slice pg M.g.length cg∧uc= .slice pc M.c.length cc:=by
  injection he with he
  simp at he
  exact⟨he.1.symm,he.2.1.symm,he.2.2.symm⟩
 obtain⟨rfl,rfl,rfl⟩:=e1
 exact⟨_,_,_,X2g hx _ _ _ _ _ _ _ _ _,h1,h2,h3,ho,X4w hb hk _ _ _ _ _ _ _ _ _⟩
abbrev X6D:Array Value:= #[.func (.func 83) #[] #[], .func (.func 84) #[] #[], .func (.func 85) #[] #[], .func (.func 86) #[] #[], .func (.func 87) #[] #[]]
theorem Xxk{M:MS}(x:Int)(h:Mch.Sane M)(hx:I64 x): ∃ (kk G:Nat),M.kind=(kk:Int)∧kk<5∧X6D[kk]? =some (.func (.func G) #[] #[])∧(∀ (xs:Array Value) (W':World),(callFunc G xs).run Tryz.prog W'= .ok (.enter G xs) W')∧∀W' va,Tabs W'→RM W' va M→Calls Tryz.prog G #[va, .int .i64 x] W' (FedM va (Mch.feedK M x) W'):=by
 have a:=Mch.small_sane ((Mch.X1b M).2 h)
 rcases Mch.X84 h with h0 | h0 | h0 | h0 | h0
 ·exact⟨0,_,h0,by omega,rfl,(fun xs W'=>by simp [go_sem]),fun W' va hT hr=>Xji va M x W' hT h0 h hr⟩
 ·exact⟨1,_,h0,by omega,rfl,(fun xs W'=>by simp [go_sem]),fun W' va hT hr=>Xpu va M x W' h0 h a hr⟩
 ·exact⟨2,_,h0,by omega,rfl,(fun xs W'=>by simp [go_sem]),fun W' va hT hr=>Xpv va M x W' h0 h a hx hr⟩
 ·exact⟨3,_,h0,by omega,rfl,(fun xs W'=>by simp [go_sem]),fun W' va hT hr=>Xh9 va M x W' h0 h a hr⟩
 ·refine⟨4,_,h0,by omega,rfl,(fun xs W'=>by simp [go_sem]),fun W' va hT hr=>?_⟩
  by_cases e:x= -1
  ·subst e
   exact Xtw va M W' h0 h a hr
  ·exact XlG va M x W' h0 e h a hr
abbrev X9X:Array Value:= #[.func (.func 88) #[] #[], .func (.func 89) #[] #[], .func (.func 89) #[] #[], .func (.func 90) #[] #[], .func (.func 91) #[] #[]]
theorem Xxl{M:MS}(h:Mch.Sane M): ∃ (kk G:Nat),M.kind=(kk:Int)∧kk<5∧X9X[kk]? =some (.func (.func G) #[] #[])∧(∀ (xs:Array Value) (W':World),(callFunc G xs).run Tryz.prog W'= .ok (.enter G xs) W')∧∀W' va,Tabs W'→RM W' va M→Calls Tryz.prog G #[va] W' (Makes (Mch.endK M) W'):=by
 have a:=Mch.small_sane ((Mch.X1b M).2 h)
 rcases Mch.X84 h with h0 | h0 | h0 | h0 | h0
 ·exact⟨0,_,h0,by omega,rfl,(fun xs W'=>by simp [go_sem]),fun W' va hT hr=>XdD va M W' hT h0 hr⟩
 ·exact⟨1,_,h0,by omega,rfl,(fun xs W'=>by simp [go_sem]),fun W' va hT hr=>X9W va M W' (.inl h0) a hr⟩
 ·exact⟨2,_,h0,by omega,rfl,(fun xs W'=>by simp [go_sem]),fun W' va hT hr=>X9W va M W' (.inr h0) a hr⟩
 ·exact⟨3,_,h0,by omega,rfl,(fun xs W'=>by simp [go_sem]),fun W' va hT hr=>XbB va M W' h0 h a hr⟩
 ·exact⟨4,_,h0,by omega,rfl,(fun xs W'=>by simp [go_sem]),fun W' va hT hr=>XdE va M W' h0 hr⟩
theorem XfA(v:Value)(m:MS)(x:Int)(w:World)(hT:Tabs w)(hs:Mch.Small m)(hv:RM w v m)(hx:I64 x):Calls Tryz.prog 57 #[v, .int .i64 x] w (FedM v (Mch.feedM m x) w):=by
 have I:=hv
 unfold Mch.feedM
 obtain⟨vn,vg,vc,rfl,U,T,R⟩:=hv
 obtain⟨pn,cn,rfl⟩:=X0b U
 obtain⟨pg,cg,rfl⟩:=X0b T
 obtain⟨pc,cc,rfl⟩:=X0b R
 have D:=X0g w #[.int .i64 m.kind, .string ⟨m.d.toArray⟩, .slice pn m.n.length cn, .slice pg m.g.length cg, .bool m.s.on, .int .i64 m.s.kind, .bool m.s.pict, .bool m.s.odd, .slice pc m.c.length cc] 46
 have f:=X0l D (.cells (bare9 0) 46)
 have i:=X0g (w.alloc (.cells #[.int .i64 m.kind, .string ⟨m.d.toArray⟩, .slice pn m.n.length cn, .slice pg m.g.length cg, .bool m.s.on, .int .i64 m.s.kind, .bool m.s.pict, .bool m.s.odd, .slice pc m.c.length cc] 46)) (bare9 0) 46
 rw[World.size_alloc] at i
 have r:=(X04 w (.cells #[.int .i64 m.kind, .string ⟨m.d.toArray⟩, .slice pn m.n.length cn, .slice pg m.g.length cg, .bool m.s.on, .int .i64 m.s.kind, .bool m.s.pict, .bool m.s.odd, .slice pc m.c.length cc] 46)).alloc (by simp) (.cells (bare9 0) 46)
 obtain⟨W,hW⟩: ∃W,(w.alloc (.cells #[.int .i64 m.kind, .string ⟨m.d.toArray⟩, .slice pn m.n.length cn, .slice pg m.g.length cg, .bool m.s.on, .int .i64 m.s.kind, .bool m.s.pict, .bool m.s.odd, .slice pc m.c.length cc] 46)).alloc (.cells (bare9 0) 46)=W:=⟨_,rfl⟩
 rw[hW] at f i r
 clear D
 replace hW:=hid hW
 have u:=X8N _ m W (XyL hT r) hs (X0d I r)
 have y:=(Mch.X1b _).1 (Mch.X8P m)
 have N:=Xnm I (Nat.le_refl w.heap.size)
 have k:=Xnm I (Nat.le_succ w.heap.size)
 unfold XdC at u
 obtain⟨M,hM⟩: ∃M,Mch.asM m=M:=⟨_,rfl⟩
 rw[hM] at u y ⊢
 obtain⟨q,hq⟩: ∃q,Mch.feedK M x=q:=⟨_,rfl⟩
 rw[hq]
 unfold mchV strV at u N k ⊢
 replace u:=hid u
 replace y:=hid y
 replace N:=hid N
 replace k:=hid k
 replace f:=hid f
 replace r:=hid r
 replace I:=hid I
 replace U:=hid U
 replace T:=hid T
 replace R:=hid R
 replace hM:=hid hM
 replace hT:=hid hT
 replace i:=hid i
 replace hx:=hid hx
 replace hq:=hid hq
 clear hs
 go_enter Tryz.func57,Tryz.ntmps57
 go_upto_region 1 with(fail)
 rw[hW.out]
 obtain⟨k0,k1,k2,k3,k4,k5,k6,k7,k8⟩:=held9 f.out
 go_cut [] (fun wx=>RB15 w (.agg #[.int .i64 m.kind, .string ⟨m.d.toArray⟩, .slice pn m.n.length cn, .slice pg m.g.length cg, .bool m.s.on, .int .i64 m.s.kind, .bool m.s.pict, .bool m.s.odd, .slice pc m.c.length cc]) M w.heap.size wx∧Blk wx (w.heap.size+1) (bare9 0) 46)
 case first=>
  go_wp2_with fail
  refine u.out.mono ?_
  rintro e w1 ⟨va,rfl,ra,oa,q1⟩
  obtain⟨qn,dn,qg,dg,qc,dc,rfl⟩:=X4g ra
  have x1:=X02 f.out q1
  have b1:=X05 r.out q1
  have af:=hid (Xha (Nat.le_refl w.heap.size) x1 ra oa N.out b1)
  have r1:=hid (X52 (X02 i.out q1) (show w.heap.size+1≠w.heap.size by omega) (.int .i64 M.kind) (.string ⟨M.d.toArray⟩) (.slice qn M.n.length dn) (.slice qg M.g.length dg) (.bool M.s.on) (.int .i64 M.s.kind) (.bool M.s.pict) (.bool M.s.odd) (.slice qc M.c.length dc))
  unfold X25
  obtain⟨y0,y1,y2,y3,y4,y5,y6,y7,y8⟩:=held9 x1
  have a4:=X06 x1 0
  have a5:=X06 x1 1
  have a6:=X06 x1 2
  have a7:=X06 x1 3
  have a8:=X06 x1 4
  have a9:=X06 x1 5
  have aa:=X06 x1 6
  have ab:=X06 x1 7
  have ac:=X06 x1 8
  clear x1 b1 ra oa q1 k0 k1 k2 k3 k4 k5 k6 k7 k8
  go_wp2_with fail
  go_meet
  have hA:=af.out
  unfold set9 at hA
  have hB:=r1.out
  unfold set9 at hB
  exact⟨hA,hB⟩
 case rest=>
  obtain⟨⟨un,ug,uc,E,rn,rg,rc,F,t⟩,H⟩:=hcut
  obtain⟨qn,dn,rfl⟩:=X0b rn
  obtain⟨qg,dg,rfl⟩:=X0b rg
  obtain⟨qc,dc,rfl⟩:=X0b rc
  have ad:=hid (XyL hT.out t)
  clear k0 k1 k2 k3 k4 k5 k6 k7 k8
  obtain⟨kk,G,L,am,hG,ak,a⟩:=Xxk x y.out hx.out
  rw[hq.out] at a
  have P:RowKit.Hid (RM wc (mchV M (.slice qn M.n.length dn) (.slice qg M.g.length dg) (.slice qc M.c.length dc)) M):=⟨_,_,_,rfl,rn,rg,rc⟩
  unfold mchV strV at P
  unfold strV at E
  rw[L] at E P
  have x4:=X0l E (.cells X6D 96)
  have r4:=hid (X0l H (.cells X6D 96))
  have f4:=X0g wc X6D 96
  have b4:=hid (t.alloc t.size (.cells X6D 96))
  have a3:=hid (X0d P.out (X04 wc (.cells X6D 96)))
  have T4:=hid (XyL ad.out (X04 wc (.cells X6D 96)))
  have a0:=hid (show wc.heap.size≠w.heap.size+1 by have:=X1h H;omega)
  have ah:=hid (show w.heap.size≤wc.heap.size from t.size)
  have ag:=hid (X1h H)
  have an:(kk:Int)<5:=by omega
  have al: ¬((kk:Int)<0):=by omega
  replace L:=hid L
  replace hG:=hid hG
  replace a:=hid a
  replace F:=hid F
  replace t:=hid t
  replace E:=hid E
  replace H:=hid H
  replace rn:=hid rn
  replace rg:=hid rg
  replace rc:=hid rc
  replace y:=hid y
  go_upto_region 3 with(fail)
  obtain⟨w4,z⟩: ∃w4,wc.alloc (.cells X6D 96)=w4:=⟨_,rfl⟩
  rw[z] at x4 r4 f4 b4 a3 T4
  unfold X6D at z
  rw[z]
  replace z:=hid z
  replace x4:=hid x4
  replace f4:=hid f4
  refine wp_region_held_drew (S:=fun w'=>w'.cell? ⟨w.heap.size,0,none⟩=some (.int .i64 kk)∧w'.cell? ⟨w.heap.size,1,none⟩=some (.string ⟨M.d.toArray⟩)∧w'.cell? ⟨w.heap.size,2,none⟩=some (.slice qn M.n.length dn)∧w'.cell? ⟨w.heap.size,3,none⟩=some (.slice qg M.g.length dg)∧w'.cell? ⟨w.heap.size,4,none⟩=some (.bool M.s.on)∧w'.cell? ⟨w.heap.size,5,none⟩=some (.int .i64 M.s.kind)∧w'.cell? ⟨w.heap.size,6,none⟩=some (.bool M.s.pict)∧w'.cell? ⟨w.heap.size,7,none⟩=some (.bool M.s.odd)∧w'.cell? ⟨w.heap.size,8,none⟩=some (.slice qc M.c.length dc)∧w'.cell? ⟨wc.heap.size,kk,none⟩=some (.func (.func G) #[] #[])) (by kernel_rfl) (⟨X00 x4.out 0 _ rfl,X00 x4.out 1 _ rfl,X00 x4.out 2 _ rfl,X00 x4.out 3 _ rfl,X00 x4.out 4 _ rfl,X00 x4.out 5 _ rfl,X00 x4.out 6 _ rfl,X00 x4.out 7 _ rfl,X00 x4.out 8 _ rfl,X00 f4.out kk _ hG.out⟩) (fun hS=>?_)
  refine' tk 0 rfl hS ?_
  try simp only[putA]
  refine' tk 1 rfl hS ?_
  try simp only[putA]
  refine' tk 2 rfl hS ?_
  try simp only[putA]
  refine' tk 3 rfl hS ?_
  try simp only[putA]
  refine' tk 4 rfl hS ?_
  try simp only[putA]
  refine' tk 5 rfl hS ?_
  try simp only[putA]
  refine' tk 6 rfl hS ?_
  try simp only[putA]
  refine rdy 7 rfl fun K hK=>?_
  go_simp
  refine(a.out _ _ (XdJ T4.out) (Xhd a3.out)).mono ?_
  rintro e w5 ⟨vt,vb,rfl,ra,rb,ho,q5⟩
  obtain⟨C,p,B,o,A,l,rfl⟩:=X4g ra
  obtain⟨pb,cb,rfl⟩:=X0b rb
  unfold X25 at ra ho ⊢
  have r5:=X02 (w:=w4.drew) r4.out q5
  have b5:=hid (X05 (show Below w.heap.size w w4.drew from b4.out.drew) q5)
  have x5:=hid (X02 (w:=w4.drew) x4.out q5)
  have f5:=hid (X02 (w:=w4.drew) f4.out q5)
  replace ra:=hid ra
  replace rb:=hid rb
  replace ho:=hid ho
  clear q5
  go_wp2_with fail
  refine hK.out _ _ (⟨X00 x5.out 0 _ rfl,X00 x5.out 1 _ rfl,X00 x5.out 2 _ rfl,X00 x5.out 3 _ rfl,X00 x5.out 4 _ rfl,X00 x5.out 5 _ rfl,X00 x5.out 6 _ rfl,X00 x5.out 7 _ rfl,X00 x5.out 8 _ rfl,X00 f5.out kk _ hG.out⟩) (fun hSn=>?_)
  clear hS
  have hS:=hSn
  clear hSn
  clear hK K
  try simp only[putA]
  refine' tk 8 rfl hS ?_
  try simp only[putA]
  refine' tk 9 rfl hS ?_
  try simp only[putA]
  obtain⟨y0,y1,y2,y3,y4,y5,y6,y7,y8⟩:=held9 r5
  have a4:=X06 r5 0
  have a5:=X06 r5 1
  have a6:=X06 r5 2
  have a7:=X06 r5 3
  have a8:=X06 r5 4
  have a9:=X06 r5 5
  have aa:=X06 r5 6
  have ab:=X06 r5 7
  have ac:=X06 r5 8
  replace r5:=hid r5
  have x6:=X52 x5.out (show w.heap.size≠w.heap.size+1 by omega) (.int .i64 q.1.kind) (.string ⟨q.1.d.toArray⟩) (.slice C q.1.n.length p) (.slice B q.1.g.length o) (.bool q.1.s.on) (.int .i64 q.1.s.kind) (.bool q.1.s.pict) (.bool q.1.s.odd) (.slice A q.1.c.length l)
  have f6:=X52 f5.out a0.out (.int .i64 q.1.kind) (.string ⟨q.1.d.toArray⟩) (.slice C q.1.n.length p) (.slice B q.1.g.length o) (.bool q.1.s.on) (.int .i64 q.1.s.kind) (.bool q.1.s.pict) (.bool q.1.s.odd) (.slice A q.1.c.length l)
  unfold set9 at x6 f6
  replace x6:=hid x6
  replace f6:=hid f6
  refine rdy 10 rfl fun K hK=>?_
  go_simp
  go_wp2_with fail
  refine hK.out _ _ (⟨X00 x6.out 0 _ rfl,X00 x6.out 1 _ rfl,X00 x6.out 2 _ rfl,X00 x6.out 3 _ rfl,X00 x6.out 4 _ rfl,X00 x6.out 5 _ rfl,X00 x6.out 6 _ rfl,X00 x6.out 7 _ rfl,X00 x6.out 8 _ rfl,X00 f6.out kk _ hG.out⟩) (fun hSn=>?_)
  clear hS
  have hS:=hSn
  clear hSn
  clear hK K
  try simp only[putA]
  refine' tk 11 rfl hS ?_
  try simp only[putA]
  refine wpAnyH_done (by kernel_rfl) ?_ _
  go_wp2_with fail
  have a2:=X9Z w5 (w.heap.size+1) (.int .i64 q.1.kind) (.string ⟨q.1.d.toArray⟩) (.slice C q.1.n.length p) (.slice B q.1.g.length o) (.bool q.1.s.on) (.int .i64 q.1.s.kind) (.bool q.1.s.pict) (.bool q.1.s.odd) (.slice A q.1.c.length l)
  have ae:=X4w b5.out (Nat.le_succ w.heap.size) (.int .i64 q.1.kind) (.string ⟨q.1.d.toArray⟩) (.slice C q.1.n.length p) (.slice B q.1.g.length o) (.bool q.1.s.on) (.int .i64 q.1.s.kind) (.bool q.1.s.pict) (.bool q.1.s.odd) (.slice A q.1.c.length l)
  have V: ∀j,j<wc.heap.size→j<w4.drew.heap.size:=fun j hj=>by
   have:w4.drew.heap.size=w4.heap.size:=rfl
   rw[this,←z.out]
   simp
   omega
  have b:=fun j h=>F.out j h
  unfold mchV strV at b
  rw[L.out] at b
  have a1:=ho.out (w.heap.size+1) (V _ ag.out) (b _ k.out)
  have O:FedM _ q w _ _:=⟨_,_,rfl,XfD ra.out a2 (fun j e=>e ▸ a1.1),XdP rb.out a2 (fun j e=>e ▸ a1.2),fun j hj ai=>ho.out j (V _ (Nat.lt_of_lt_of_le hj ah.out)) (b j ai),ae⟩
  unfold set9 at O
  have aj:=r5.out
  have n9:=X2g aj (.int .i64 q.1.kind) (.string ⟨q.1.d.toArray⟩) (.slice C q.1.n.length p) (.slice B q.1.g.length o) (.bool q.1.s.on) (.int .i64 q.1.s.kind) (.bool q.1.s.pict) (.bool q.1.s.odd) (.slice A q.1.c.length l)
  unfold set9 at n9
  obtain⟨z0,z1,z2,z3,z4,z5,z6,z7,z8⟩:=held9 n9
  refine bodyPost_ret (v:= .tuple #[.agg #[.int .i64 q.1.kind, .string ⟨q.1.d.toArray⟩, .slice C q.1.n.length p, .slice B q.1.g.length o, .bool q.1.s.on, .int .i64 q.1.s.kind, .bool q.1.s.pict, .bool q.1.s.odd, .slice A q.1.c.length l], .slice pb q.2.length cb]) ?_ rfl ?_
  ·simp [results,Tryz.results57,go_sem,z0,z1,z2,z3,z4,z5,z6,z7,z8]
  ·exact O
theorem XdF:FeedC15:=fun v m x w hT hs hv hx=>XfA v m x w hT hs hv hx
theorem Xjj(v:Value)(m:MS)(w:World)(hT:Tabs w)(hs:Mch.Small m)(hv:RM w v m):Calls Tryz.prog 58 #[v] w (FedM v (Mch.endM m) w):=by
 have t:=hv
 unfold Mch.endM
 obtain⟨vn,vg,vc,rfl,H,F,E⟩:=hv
 obtain⟨pn,cn,rfl⟩:=X0b H
 obtain⟨pg,cg,rfl⟩:=X0b F
 obtain⟨pc,cc,rfl⟩:=X0b E
 have l:=X0g w #[.int .i64 m.kind, .string ⟨m.d.toArray⟩, .slice pn m.n.length cn, .slice pg m.g.length cg, .bool m.s.on, .int .i64 m.s.kind, .bool m.s.pict, .bool m.s.odd, .slice pc m.c.length cc] 46
 have b:=X0l l (.cells (bare9 0) 46)
 have f:=X0g (w.alloc (.cells #[.int .i64 m.kind, .string ⟨m.d.toArray⟩, .slice pn m.n.length cn, .slice pg m.g.length cg, .bool m.s.on, .int .i64 m.s.kind, .bool m.s.pict, .bool m.s.odd, .slice pc m.c.length cc] 46)) (bare9 0) 46
 rw[World.size_alloc] at f
 have i:=(X04 w (.cells #[.int .i64 m.kind, .string ⟨m.d.toArray⟩, .slice pn m.n.length cn, .slice pg m.g.length cg, .bool m.s.on, .int .i64 m.s.kind, .bool m.s.pict, .bool m.s.odd, .slice pc m.c.length cc] 46)).alloc (by simp) (.cells (bare9 0) 46)
 obtain⟨W,hW⟩: ∃W,(w.alloc (.cells #[.int .i64 m.kind, .string ⟨m.d.toArray⟩, .slice pn m.n.length cn, .slice pg m.g.length cg, .bool m.s.on, .int .i64 m.s.kind, .bool m.s.pict, .bool m.s.odd, .slice pc m.c.length cc] 46)).alloc (.cells (bare9 0) 46)=W:=⟨_,rfl⟩
 rw[hW] at b f i
 clear l
 replace hW:=hid hW
 have j:=X8N _ m W (XyL hT i) hs (X0d t i)
 have k:=(Mch.X1b _).1 (Mch.X8P m)
 have y:=Xnm t (Nat.le_refl w.heap.size)
 have r:=Xnm t (Nat.le_succ w.heap.size)
 unfold XdC at j
 obtain⟨M,hM⟩: ∃M,Mch.asM m=M:=⟨_,rfl⟩
 rw[hM] at j k ⊢
 obtain⟨q,hq⟩: ∃q,(Mch.newM M.kind,Mch.endK M)=q:=⟨_,rfl⟩
 rw[hq]
 unfold mchV strV at j y r ⊢
 replace j:=hid j
 replace k:=hid k
 replace y:=hid y
 replace r:=hid r
 replace b:=hid b
 replace i:=hid i
 replace t:=hid t
 replace H:=hid H
 replace F:=hid F
 replace E:=hid E
 replace hM:=hid hM
 replace hT:=hid hT
 replace f:=hid f
 replace hq:=hid hq
 clear hs
 go_enter Tryz.func58,Tryz.ntmps58
 go_upto_region 1 with(fail)
 rw[hW.out]
 obtain⟨k0,k1,k2,k3,k4,k5,k6,k7,k8⟩:=held9 b.out
 go_cut [] (fun wx=>RB15 w (.agg #[.int .i64 m.kind, .string ⟨m.d.toArray⟩, .slice pn m.n.length cn, .slice pg m.g.length cg, .bool m.s.on, .int .i64 m.s.kind, .bool m.s.pict, .bool m.s.odd, .slice pc m.c.length cc]) M w.heap.size wx∧Blk wx (w.heap.size+1) (bare9 0) 46)
 case first=>
  go_wp2_with fail
  refine j.out.mono ?_
  rintro e w1 ⟨va,rfl,ra,oa,q1⟩
  obtain⟨qn,dn,qg,dg,qc,dc,rfl⟩:=X4g ra
  have x1:=X02 b.out q1
  have b1:=X05 i.out q1
  have a5:=hid (Xha (Nat.le_refl w.heap.size) x1 ra oa y.out b1)
  have r1:=hid (X52 (X02 f.out q1) (show w.heap.size+1≠w.heap.size by omega) (.int .i64 M.kind) (.string ⟨M.d.toArray⟩) (.slice qn M.n.length dn) (.slice qg M.g.length dg) (.bool M.s.on) (.int .i64 M.s.kind) (.bool M.s.pict) (.bool M.s.odd) (.slice qc M.c.length dc))
  unfold X25
  obtain⟨y0,y1,y2,y3,y4,y5,y6,y7,y8⟩:=held9 x1
  have P:=X06 x1 0
  have R:=X06 x1 1
  have T:=X06 x1 2
  have U:=X06 x1 3
  have V:=X06 x1 4
  have a0:=X06 x1 5
  have a1:=X06 x1 6
  have a2:=X06 x1 7
  have a3:=X06 x1 8
  clear x1 b1 ra oa q1 k0 k1 k2 k3 k4 k5 k6 k7 k8
  go_wp2_with fail
  go_meet
  have hA:=a5.out
  unfold set9 at hA
  have hB:=r1.out
  unfold set9 at hB
  exact⟨hA,hB⟩
 case rest=>
  obtain⟨⟨un,ug,uc,p,rn,rg,rc,B,o⟩,z⟩:=hcut
  obtain⟨qn,dn,rfl⟩:=X0b rn
  obtain⟨qg,dg,rfl⟩:=X0b rg
  obtain⟨qc,dc,rfl⟩:=X0b rc
  have a4:=hid (XyL hT.out o)
  clear k0 k1 k2 k3 k4 k5 k6 k7 k8
  obtain⟨kk,G,x,aa,hG,a8,a⟩:=Xxl k.out
  obtain⟨L,hL⟩: ∃L,Mch.endK M=L:=⟨_,rfl⟩
  rw[hL] at a
  have C:Mch.newM M.kind=Mch.bare kk:=by
   unfold Mch.newM
   rw[x,if_pos (by omega)]
  have N:=hq.out
  rw[C,hL] at N
  subst N
  clear hq
  have h:=fun W'=>X7x (kk:Int) W'
  rw[if_pos (by omega)] at h
  have D:RowKit.Hid (RM wc (mchV M (.slice qn M.n.length dn) (.slice qg M.g.length dg) (.slice qc M.c.length dc)) M):=⟨_,_,_,rfl,rn,rg,rc⟩
  unfold mchV strV at D
  unfold strV at p
  rw[x] at p D
  have x4:=X0l p (.cells X9X 118)
  have r4:=hid (X0l z (.cells X9X 118))
  have f4:=X0g wc X9X 118
  have b4:=hid (o.alloc o.size (.cells X9X 118))
  have O:=hid (X0d D.out (X04 wc (.cells X9X 118)))
  have T4:=hid (XyL a4.out (X04 wc (.cells X9X 118)))
  have I:=hid (show wc.heap.size≠w.heap.size+1 by have:=X1h z;omega)
  have ab:(kk:Int)<5:=by omega
  have a9: ¬((kk:Int)<0):=by omega
  unfold Makes at a
  replace x:=hid x
  replace hG:=hid hG
  replace a:=hid a
  replace hL:=hid hL
  replace B:=hid B
  replace o:=hid o
  replace p:=hid p
  replace z:=hid z
  replace rn:=hid rn
  replace rg:=hid rg
  replace rc:=hid rc
  replace k:=hid k
  replace h:=hid h
  replace C:=hid C
  go_upto_region 3 with(fail)
  obtain⟨w4,u⟩: ∃w4,wc.alloc (.cells X9X 118)=w4:=⟨_,rfl⟩
  rw[u] at x4 r4 f4 b4 O T4
  unfold X9X at u
  rw[u]
  replace u:=hid u
  replace x4:=hid x4
  replace f4:=hid f4
  refine wp_region_held_drew (S:=fun w'=>w'.cell? ⟨w.heap.size,0,none⟩=some (.int .i64 kk)∧w'.cell? ⟨w.heap.size,1,none⟩=some (.string ⟨M.d.toArray⟩)∧w'.cell? ⟨w.heap.size,2,none⟩=some (.slice qn M.n.length dn)∧w'.cell? ⟨w.heap.size,3,none⟩=some (.slice qg M.g.length dg)∧w'.cell? ⟨w.heap.size,4,none⟩=some (.bool M.s.on)∧w'.cell? ⟨w.heap.size,5,none⟩=some (.int .i64 M.s.kind)∧w'.cell? ⟨w.heap.size,6,none⟩=some (.bool M.s.pict)∧w'.cell? ⟨w.heap.size,7,none⟩=some (.bool M.s.odd)∧w'.cell? ⟨w.heap.size,8,none⟩=some (.slice qc M.c.length dc)∧w'.cell? ⟨wc.heap.size,kk,none⟩=some (.func (.func G) #[] #[])) (by kernel_rfl) (⟨X00 x4.out 0 _ rfl,X00 x4.out 1 _ rfl,X00 x4.out 2 _ rfl,X00 x4.out 3 _ rfl,X00 x4.out 4 _ rfl,X00 x4.out 5 _ rfl,X00 x4.out 6 _ rfl,X00 x4.out 7 _ rfl,X00 x4.out 8 _ rfl,X00 f4.out kk _ hG.out⟩) (fun hS=>?_)
  refine' tk 0 rfl hS ?_
  try simp only[putA]
  refine' tk 1 rfl hS ?_
  try simp only[putA]
  refine' tk 3 rfl hS ?_
  try simp only[putA]
  refine' tk 4 rfl hS ?_
  try simp only[putA]
  refine' tk 5 rfl hS ?_
  try simp only[putA]
  refine' tk 6 rfl hS ?_
  try simp only[putA]
  refine' tk 7 rfl hS ?_
  try simp only[putA]
  refine' tk 8 rfl hS ?_
  try simp only[putA]
  refine rdy 2 rfl fun K hK=>?_
  go_simp
  go_at_call 52
  refine(h.out _).mono ?_
  rintro e w5 ⟨rfl,q5⟩
  have r5:=hid (X02 (w:=w4.drew) r4.out q5)
  have b5:=hid (X05 (show Below w.heap.size w w4.drew from b4.out.drew) q5)
  have x5:=hid (X02 (w:=w4.drew) x4.out q5)
  have f5:=hid (X02 (w:=w4.drew) f4.out q5)
  have a7:=hid (X0d (w:=w4.drew) O.out q5)
  have T5:=hid (XyL (w:=w4.drew) T4.out q5)
  clear q5
  go_wp2_with fail
  refine hK.out _ _ (⟨X00 x5.out 0 _ rfl,X00 x5.out 1 _ rfl,X00 x5.out 2 _ rfl,X00 x5.out 3 _ rfl,X00 x5.out 4 _ rfl,X00 x5.out 5 _ rfl,X00 x5.out 6 _ rfl,X00 x5.out 7 _ rfl,X00 x5.out 8 _ rfl,X00 f5.out kk _ hG.out⟩) (fun hSn=>?_)
  clear hS
  have hS:=hSn
  clear hSn
  clear hK K
  try simp only[putA]
  refine rdy 9 rfl fun K hK=>?_
  go_simp
  refine(a.out _ _ T5.out a7.out).mono ?_
  rintro e w6 ⟨vb,rfl,ob,q6⟩
  obtain⟨pb,cb,rfl⟩:=X0b (X0a ob)
  have r6:=X02 r5.out q6
  have x6:=hid (X02 x5.out q6)
  have f6:=hid (X02 f5.out q6)
  have o6:=hid (X0w ob b5.out.size)
  have b6:=hid (X05 b5.out q6)
  clear q6 ob
  go_wp2_with fail
  refine hK.out _ _ (⟨X00 x6.out 0 _ rfl,X00 x6.out 1 _ rfl,X00 x6.out 2 _ rfl,X00 x6.out 3 _ rfl,X00 x6.out 4 _ rfl,X00 x6.out 5 _ rfl,X00 x6.out 6 _ rfl,X00 x6.out 7 _ rfl,X00 x6.out 8 _ rfl,X00 f6.out kk _ hG.out⟩) (fun hSn=>?_)
  clear hS
  have hS:=hSn
  clear hSn
  clear hK K
  try simp only[putA]
  obtain⟨y0,y1,y2,y3,y4,y5,y6,y7,y8⟩:=held9 r6
  have P:=X06 r6 0
  have R:=X06 r6 1
  have T:=X06 r6 2
  have U:=X06 r6 3
  have V:=X06 r6 4
  have a0:=X06 r6 5
  have a1:=X06 r6 6
  have a2:=X06 r6 7
  have a3:=X06 r6 8
  replace r6:=hid r6
  have x7:=X52 x6.out (show w.heap.size≠w.heap.size+1 by omega) (.int .i64 kk) (.string ⟨#[]⟩) nilV nilV (.bool false) (.int .i64 0) (.bool false) (.bool false) nilV
  have f7:=X52 f6.out I.out (.int .i64 kk) (.string ⟨#[]⟩) nilV nilV (.bool false) (.int .i64 0) (.bool false) (.bool false) nilV
  unfold set9 at x7 f7
  replace x7:=hid x7
  replace f7:=hid f7
  refine rdy 10 rfl fun K hK=>?_
  go_simp
  go_wp2_with fail
  refine hK.out _ _ (⟨X00 x7.out 0 _ rfl,X00 x7.out 1 _ rfl,X00 x7.out 2 _ rfl,X00 x7.out 3 _ rfl,X00 x7.out 4 _ rfl,X00 x7.out 5 _ rfl,X00 x7.out 6 _ rfl,X00 x7.out 7 _ rfl,X00 x7.out 8 _ rfl,X00 f7.out kk _ hG.out⟩) (fun hSn=>?_)
  clear hS
  have hS:=hSn
  clear hSn
  clear hK K
  try simp only[putA]
  refine' tk 11 rfl hS ?_
  try simp only[putA]
  refine wpAnyH_done (by kernel_rfl) ?_ _
  go_wp2_with fail
  have e6:=r6.out
  have A:=Xhb (v:=mchV m (.slice pn m.n.length cn) (.slice pg m.g.length cg) (.slice pc m.c.length cc)) (q:=(Mch.bare kk,L)) r6.out (Nat.le_succ w.heap.size) ⟨X3w _,X6V _ _ _⟩ ⟨X3w _,X6V _ _ _⟩ ⟨X3w _,X6V _ _ _⟩ ⟨X0a o6.out,XdI o6.out e6⟩ b6.out
  unfold set9 strV at A
  have a6:=r6.out
  have n9:=X2g a6 (.int .i64 kk) (.string ⟨#[]⟩) nilV nilV (.bool false) (.int .i64 0) (.bool false) (.bool false) nilV
  unfold set9 at n9
  obtain⟨z0,z1,z2,z3,z4,z5,z6,z7,z8⟩:=held9 n9
  refine bodyPost_ret (v:= .tuple #[.agg #[(.int .i64 kk),(.string ⟨#[]⟩),nilV,nilV,(.bool false),(.int .i64 0),(.bool false),(.bool false),nilV], .slice pb L.length cb]) ?_ rfl ?_
  ·simp [results,Tryz.results58,go_sem,z0,z1,z2,z3,z4,z5,z6,z7,z8]
  ·exact A
theorem XyK:EndC15:=fun v m w hT hs hv=>Xjj v m w hT hs hv
theorem Xpw(v:Value)(m:MS)(w:World)(hT:Tabs w)(hs:Mch.Small m)(hv:RM w v m):Calls Tryz.prog 47 #[v] w fun e w'=>e= .returned (.int .i64 (Mch.costM m:Nat))∧Below w.heap.size w w':=by
 have l:=hv
 have j:Mch.costM m=(Mch.asM m).d.length+(Mch.asM m).n.length+(Mch.asM m).g.length+(Mch.asM m).c.length:=by
  unfold Mch.costM Mch.asM
  split
  ·rfl
  ·rfl
 rw[j]
 clear j
 obtain⟨vn,vg,vc,rfl,y,x,u⟩:=hv
 obtain⟨pn,cn,rfl⟩:=X0b y
 obtain⟨pg,cg,rfl⟩:=X0b x
 obtain⟨pc,cc,rfl⟩:=X0b u
 have a:=X0g w #[.int .i64 m.kind, .string ⟨m.d.toArray⟩, .slice pn m.n.length cn, .slice pg m.g.length cg, .bool m.s.on, .int .i64 m.s.kind, .bool m.s.pict, .bool m.s.odd, .slice pc m.c.length cc] 46
 have b:=X04 w (.cells #[.int .i64 m.kind, .string ⟨m.d.toArray⟩, .slice pn m.n.length cn, .slice pg m.g.length cg, .bool m.s.on, .int .i64 m.s.kind, .bool m.s.pict, .bool m.s.odd, .slice pc m.c.length cc] 46)
 obtain⟨W,hW⟩: ∃W,w.alloc (.cells #[.int .i64 m.kind, .string ⟨m.d.toArray⟩, .slice pn m.n.length cn, .slice pg m.g.length cg, .bool m.s.on, .int .i64 m.s.kind, .bool m.s.pict, .bool m.s.odd, .slice pc m.c.length cc] 46)=W:=⟨_,rfl⟩
 rw[hW] at a b
 replace hW:=hid hW
 have f:=X8N _ m W (XyL hT b) hs (X0d l b)
 have h:=(Mch.X1b _).1 (Mch.X8P m)
 have q:=Xnm l (Nat.le_refl w.heap.size)
 have k:=Xnm l (Nat.le_succ w.heap.size)
 unfold XdC at f
 obtain⟨M,hM⟩: ∃M,Mch.asM m=M:=⟨_,rfl⟩
 rw[hM] at f h ⊢
 obtain⟨N,hN⟩: ∃N:Nat,M.d.length+M.n.length+M.g.length+M.c.length=N:=⟨_,rfl⟩
 rw[hN]
 unfold mchV strV at f q k ⊢
 replace f:=hid f
 replace h:=hid h
 replace q:=hid q
 replace k:=hid k
 replace a:=hid a
 replace b:=hid b
 replace l:=hid l
 replace y:=hid y
 replace x:=hid x
 replace u:=hid u
 replace hM:=hid hM
 replace hT:=hid hT
 replace hN:=hid hN
 clear hs
 go_enter Tryz.func47,Tryz.ntmps47
 go_upto_region 1 with(fail)
 rw[hW.out]
 obtain⟨k0,k1,k2,k3,k4,k5,k6,k7,k8⟩:=held9 a.out
 go_cut [] (fun wx=>RB15 w (.agg #[.int .i64 m.kind, .string ⟨m.d.toArray⟩, .slice pn m.n.length cn, .slice pg m.g.length cg, .bool m.s.on, .int .i64 m.s.kind, .bool m.s.pict, .bool m.s.odd, .slice pc m.c.length cc]) M w.heap.size wx)
 case first=>
  go_wp2_with fail
  refine f.out.mono ?_
  rintro e w1 ⟨va,rfl,ra,oa,q1⟩
  obtain⟨qn,dn,qg,dg,qc,dc,rfl⟩:=X4g ra
  have x1:=X02 a.out q1
  have b1:=X05 b.out q1
  have z:=hid (Xha (Nat.le_refl w.heap.size) x1 ra oa q.out b1)
  unfold X25
  obtain⟨y0,y1,y2,y3,y4,y5,y6,y7,y8⟩:=held9 x1
  have B:=X06 x1 0
  have C:=X06 x1 1
  have D:=X06 x1 2
  have E:=X06 x1 3
  have F:=X06 x1 4
  have G:=X06 x1 5
  have H:=X06 x1 6
  have I:=X06 x1 7
  have K:=X06 x1 8
  clear x1 b1 ra oa q1 k0 k1 k2 k3 k4 k5 k6 k7 k8
  go_wp2_with fail
  go_meet
  have hA:=z.out
  unfold set9 at hA
  exact hA
 case rest=>
  obtain⟨un,ug,uc,i,rn,rg,rc,t,p⟩:=hcut
  obtain⟨qn,dn,rfl⟩:=X0b rn
  obtain⟨qg,dg,rfl⟩:=X0b rg
  obtain⟨qc,dc,rfl⟩:=X0b rc
  have L:=hid (XyL hT.out p)
  clear k0 k1 k2 k3 k4 k5 k6 k7 k8
  have A:=Mch.small_sane ((Mch.X1b M).2 h.out)
  obtain⟨s1,s2,s3,s4⟩:=A
  have r:(⟨M.d.toArray⟩:ByteArray).size=M.d.length:=by simp [ByteArray.size]
  obtain⟨S,hS⟩: ∃S:ByteArray,(⟨M.d.toArray⟩:ByteArray)=S:=⟨_,rfl⟩
  rw[hS] at r
  unfold strV at i
  rw[hS] at i
  have o:=hN.out
  rw[←r] at s1 o
  have O:=X3r ((S.size:Int)+(M.n.length:Int)) (by omega) (by omega)
  have P:=X3r ((S.size:Int)+(M.n.length:Int)+(M.g.length:Int)) (by omega) (by omega)
  have R:=X3r ((S.size:Int)+(M.n.length:Int)+(M.g.length:Int)+(M.c.length:Int)) (by omega) (by omega)
  obtain⟨y0,y1,y2,y3,y4,y5,y6,y7,y8⟩:=held9 i
  replace i:=hid i
  replace rn:=hid rn
  replace rg:=hid rg
  replace rc:=hid rc
  replace t:=hid t
  replace p:=hid p
  replace h:=hid h
  replace hS:=hid hS
  replace r:=hid r
  replace o:=hid o
  go_wp2_with fail
  go_ret
  exact⟨by rw[←o.out];simp,p.out⟩
theorem XdG:CostC15:=fun v m w hT hs hv=>Xpw v m w hT hs hv
theorem Xtx(kind:Int)(va:Value)(a:List Int)(w:World)(hT:Tabs w)(hl:a.length≤30000)(a9:RI w va a)(aj:WfI a):
 Calls Tryz.prog 29 #[.int .i64 kind,va] w (Told (Mch.allM kind a) w):=by
 obtain⟨pa,ca,rfl⟩:=X0b a9
 obtain⟨i0,hi,av,aw,ax⟩:=info_parts X2p
 have ad:=hid (fun W=>X7x kind W)
 have E:=fun(l:List Int) (x:Int) (hx:I64 x) V W R h=>XfA V (Mch.X0N (Mch.newM kind) l).1 x W R (Mch.small_sane (Mch.Xqx kind l)) h hx
 have L:=fun V W R h=>Xjj V (Mch.X0N (Mch.newM kind) a).1 W R (Mch.small_sane (Mch.Xqx kind a)) h
 have a6:=(Mch.X5D (Mch.X0N (Mch.newM kind) a).1).1
 unfold Mch.allM
 obtain⟨G,hG⟩: ∃G,Mch.X0N (Mch.newM kind)=G:=⟨_,rfl⟩
 have a5:G []=(Mch.newM kind,[]):=by rw[←hG];rfl
 have ai: ∀l x,G (l++ [x])=((Mch.feedM (G l).1 x).1,(G l).2++(Mch.feedM (G l).1 x).2):=by rw[←hG];exact Mch.Xb7 _
 rw[hG] at E L a6 ⊢
 have a7:Mch.newM kind=Mch.bare (if 0≤kind∧kind≤4 then kind else 0):=rfl
 obtain⟨nk,ae⟩: ∃nk,(if 0≤kind∧kind≤4 then kind else 0)=nk:=⟨_,rfl⟩
 rw[ae] at a7 ad
 obtain⟨EE,a4⟩: ∃EE,(G a).2++(Mch.endM (G a).1).2=EE:=⟨_,rfl⟩
 rw[a4]
 replace E:=hid E
 replace L:=hid L
 replace a6:=hid a6
 replace a4:=hid a4
 replace a5:=hid a5
 replace ai:=hid ai
 replace a7:=hid a7
 replace a9:=hid a9
 replace aj:=hid aj
 replace hT:=hid hT
 clear hG ae
 go_enter Tryz.func29,Tryz.ntmps29
 go_wp2_with fail
 refine(ad.out _).mono ?_
 rintro e w2 ⟨rfl,q2⟩
 have al:=hid q2
 have T2:=hid (XyL hT.out q2)
 have ab:Fed15 46 w2.heap.size w2 (G []) (.slice none 0 0) (w2.alloc (.cells (bare9 nk) 46)):=by
  rw[a5.out,a7.out]
  exact⟨none,0,none,0,none,0,X0g _ _ _,⟨nilV,nilV,nilV,rfl, .inl ⟨rfl,rfl⟩, .inl ⟨rfl,rfl⟩, .inl ⟨rfl,rfl⟩⟩,(Xa0 _ (Mch.bare nk) nilV nilV nilV).2 ⟨X6E _,X6E _,X6E _⟩,(fun j e=>by cases e),X0O _ _,X04 w2 _⟩
 replace ab:=hid ab
 clear q2
 have ag:=hid (X03 a9.out al.out)
 go_wp2_with fail
 go_loopg [6,7,9,14] a.length (fun g vo v7 v9 vi wr=>∃k:Nat,k≤a.length∧vi= .int .i64 k∧g=a.length - k∧(G (a.take k)).2.length≤140 *k∧Fed15 46 w2.heap.size w2 (G (a.take k)) vo wr)
 case atStart=>exact⟨0,Nat.zero_le _,rfl,rfl,by rw[List.take_zero,a5.out];simp,by rw[List.take_zero];exact ab.out⟩
 case round=>
  obtain⟨k,hk,rfl,rfl,a0,aO,aL,aN,aK,aM,aJ,f,r,A,z,m,p⟩:=hrel
  have ak:=hid (XyL T2.out p)
  by_cases hlt:k<a.length
  ·have ap:(k:Int)<(a.length:Int):=by omega
   obtain⟨b,off,rfl,hb,U⟩:=ri_at ag.out (by omega)
   have hc:wr.cell? ⟨b,off+k,none⟩=some (.int .i64 a[k]):=(p.cell hb).trans (U k hlt)
   have au:=aj.out a[k] (List.getElem_mem hlt)
   have K:=E.out (a.take k) a[k] au
   have I:=ai.out (a.take k) a[k]
   rw[←List.take_succ_eq_append_getElem hlt] at I
   obtain⟨x,hx⟩: ∃x,a[k]=x:=⟨_,rfl⟩
   rw[hx] at hc K I
   have am:=Mch.X1G (G (a.take k)).1 x
   obtain⟨q,hq⟩: ∃q,Mch.feedM (G (a.take k)).1 x=q:=⟨_,rfl⟩
   rw[hq] at K I am
   obtain⟨Q,hQ⟩: ∃Q,G (a.take k)=Q:=⟨_,rfl⟩
   rw[hQ] at K I f r A z m a0
   obtain⟨M,o⟩:=Q
   obtain⟨q1,q2⟩:=q
   dsimp only at K I f r A z m a0 am
   obtain⟨S,hS⟩: ∃S:ByteArray,(⟨M.d.toArray⟩:ByteArray)=S:=⟨_,rfl⟩
   rw[hS] at f r A z
   unfold X25 at f r A z
   have ao:w2.heap.size<wr.heap.size:=X1h f
   obtain⟨c0,c1,c2,c3,c4,c5,c6,c7,c8⟩:=held9 f
   replace K:=hid K
   replace I:=hid I
   replace f:=hid f
   replace r:=hid r
   replace A:=hid A
   replace z:=hid z
   replace m:=hid m
   replace p:=hid p
   clear U hx hq hQ hS ab
   go_wp2_with fail
   refine(K.out _ _ ak.out r.out).mono ?_
   rintro e wc ⟨aP,vt,rfl,ra,rt,y,T⟩
   obtain⟨qn,dn,qg,dg,qc,dc,rfl⟩:=X4g ra
   obtain⟨pt,ct,rfl⟩:=X0b rt
   unfold X25 at ra y ⊢
   dsimp only at ra rt y ⊢
   clear c0 c1 c2 c3 c4 c5 c6 c7 c8
   have i:=X02 f.out T
   obtain⟨y0,y1,y2,y3,y4,y5,y6,y7,y8⟩:=held9 i
   have ay:=X06 i 0
   have az:=X06 i 1
   have aA:=X06 i 2
   have aB:=X06 i 3
   have aC:=X06 i 4
   have aD:=X06 i 5
   have aE:=X06 i 6
   have aF:=X06 i 7
   have aG:=X06 i 8
   have F:=X2g i (.int .i64 q1.kind) (.string ⟨q1.d.toArray⟩) (.slice qn q1.n.length dn) (.slice qg q1.g.length dg) (.bool q1.s.on) (.int .i64 q1.s.kind) (.bool q1.s.pict) (.bool q1.s.odd) (.slice qc q1.c.length dc)
   have H:=X9Z wc w2.heap.size (.int .i64 q1.kind) (.string ⟨q1.d.toArray⟩) (.slice qn q1.n.length dn) (.slice qg q1.g.length dg) (.bool q1.s.on) (.int .i64 q1.s.kind) (.bool q1.s.pict) (.bool q1.s.odd) (.slice qc q1.c.length dc)
   have a8:=y w2.heap.size ao A.out
   have a3:=XfD ra H (fun j e=>e ▸ a8.1)
   have aa:=X0Y (XdP rt H (fun j e=>e ▸ a8.2))
   have af:=Xe4 m.out (Nat.lt_succ_self w2.heap.size)
   have B:=Xnj (X0x m.out T) H (fun j e h=>af (by rw[h,e]))
   have ac:=hid (fun j e=>(y j (World.ownsRow.lt m.out j e).2 (z.out j e)).1)
   have C:=X4w (p.out.trans (T.mono p.out.size)) (Nat.le_refl _) (.int .i64 q1.kind) (.string ⟨q1.d.toArray⟩) (.slice qn q1.n.length dn) (.slice qg q1.g.length dg) (.bool q1.s.on) (.int .i64 q1.s.kind) (.bool q1.s.pict) (.bool q1.s.odd) (.slice qc q1.c.length dc)
   have a2:w2.heap.size+1≤(set9 wc w2.heap.size (.int .i64 q1.kind) (.string ⟨q1.d.toArray⟩) (.slice qn q1.n.length dn) (.slice qg q1.g.length dg) (.bool q1.s.on) (.int .i64 q1.s.kind) (.bool q1.s.pict) (.bool q1.s.odd) (.slice qc q1.c.length dc)).heap.size:=by rw[XdM];exact Nat.le_trans ao T.size
   obtain⟨W9,P⟩: ∃W9,set9 wc w2.heap.size (.int .i64 q1.kind) (.string ⟨q1.d.toArray⟩) (.slice qn q1.n.length dn) (.slice qg q1.g.length dg) (.bool q1.s.on) (.int .i64 q1.s.kind) (.bool q1.s.pict) (.bool q1.s.odd) (.slice qc q1.c.length dc)=W9:=⟨_,rfl⟩
   rw[P] at F a3 aa B C a2
   unfold set9 at P
   have aH:=hid (show o.length+q2.length≤maxLen by unfold maxLen;omega)
   have aI:=hid (show (o.length+q2.length) *8≤140737488355328 by omega)
   have ar:=hid a8.1
   replace F:=hid F
   replace a3:=hid a3
   replace aa:=hid aa
   replace B:=hid B
   replace C:=hid C
   replace a2:=hid a2
   replace P:=hid P
   obtain⟨po,co,rfl⟩:=X0b (X0a m.out)
   clear ra rt y T i H a8 af K f r A z m p hc
   go_upto_region 7 with(fail)
   rw[P.out]
   clear P y0 y1 y2 y3 y4 y5 y6 y7 y8 ay az aA aB aC aD aE aF aG
   go_wp2_with (at_builtin;refine X1i rfl _ _ 24 rfl (w2.heap.size+1) 3 i0 (.int .i64 0) 8 Tryz.underlying24 hi av aw ax rfl _ _ _ rfl B.out _ _ rfl aa.out (X0u q2) (by rw[List.length_map];exact aH.out) (by rw[List.length_map];exact aI.out) a2.out ?_;intro v5 w5 a1 u O;have o5:=hid (X0i (l:=o++q2) a1 (by simp) (by simp));have x5:=hid (X2B F.out u (Xe4 B.out (Nat.lt_succ_self _)));have r5:=hid (XfD a3.out (XfC u) (fun j e=>ac.out j e));have p5:=hid (Xnk O (fun j e=>ac.out j e) a3.out);have b5:=hid (X0k C.out u (Nat.le_trans (Nat.le_succ _) a2.out) B.out (Nat.le_succ _));clear a1 u O)
   go_roundg (a.length - (k+1))
   case measure=>omega
   case rel=>exact⟨k+1,by omega,by go_num,rfl,by rw[I.out];simp;omega,by rw[I.out];exact⟨qn,dn,qg,dg,qc,dc,x5.out,r5.out,ar.out,p5.out,o5.out,b5.out⟩⟩
  ·obtain rfl:k=a.length:=by omega
   have ap:decide ((a.length:Int)<(a.length:Int))=false:=by simp
   rw[List.take_length] at f r A z m a0
   have t:=fun V W R h=>L.out V W R h
   have v:=a4.out
   have N:=a6.out
   obtain⟨Q,hQ⟩: ∃Q,G a=Q:=⟨_,rfl⟩
   rw[hQ] at f r m a0 t v N
   obtain⟨M,o⟩:=Q
   obtain⟨D,hD⟩: ∃D,Mch.endM M=D:=⟨_,rfl⟩
   dsimp only at f r m a0 t v N
   rw[hD] at t v N
   obtain⟨d1,d2⟩:=D
   dsimp only at v N
   unfold X25 at f r
   obtain⟨c0,c1,c2,c3,c4,c5,c6,c7,c8⟩:=held9 f
   have ah:=hid (X0w m (Nat.le_succ w2.heap.size))
   replace t:=hid t
   replace v:=hid v
   replace f:=hid f
   replace r:=hid r
   replace p:=hid p
   replace hQ:=hid hQ
   clear A z m ag
   go_wp2_with fail
   refine(t.out _ _ ak.out r.out).mono ?_
   rintro e w3 ⟨ve,vt,rfl,re,rt,y,q3⟩
   obtain⟨qn,dn,qg,dg,qc,dc,rfl⟩:=X4g re
   obtain⟨pt,ct,rfl⟩:=X0b rt
   dsimp only at rt
   unfold X25
   have o3:=hid (X0x ah.out q3)
   have s3:=hid (X0Y rt)
   have b3:=hid (X05 p.out q3)
   clear re rt y q3 ah
   go_wp2_with (at_builtin;refine X0c rfl _ _ 24 rfl w2.heap.size 3 i0 (.int .i64 0) 8 Tryz.underlying24 hi av aw ax rfl _ _ _ rfl o3.out _ _ rfl s3.out (X0u _) (by unfold maxLen;first | (simp;done) | (simp;omega)) (by first | (simp;done) | (simp;omega)) b3.out.size ?_;intro v4 w4 aq an;have o4:=hid (X0i (l:=o++d2) aq (by(try simp);try omega) (by(try simp);try omega));have b4:=hid (X0k b3.out an b3.out.size o3.out (Nat.le_refl _));clear aq an)
   go_ret
   exact⟨_,rfl,by rw[←v.out];exact X0a o4.out,X05 al.out b4.out⟩
theorem Xjk:AllC15:=fun k v l w hT hl hv hw _=>Xtx k v l w hT hl hv hw
end Go.Proofs.YtkofnpkopbnocaaGreatDoor
