import Derived.Test.YtkofnpkopbnocaaGreatDoorMaW0
import Derived.Test.YtkofnpkopbnocaaGreatDoorMaBP
import Derived.Test.YtkofnpkopbnocaaGreatDoorDcRP
import Derived.Test.YtkofnpkopbnocaaGreatDoorCnRP
import Derived.Test.YtkofnpkopbnocaaGreatDoorBasP
import Derived.Deep.LoopGhost
import Derived.Deep.DeepCutAuto
import Derived.Test.YtkofnpkopbnocaaGreatDoorCnP
import Derived.Test.YtkofnpkopbnocaaGreatDoorPaRP
import Derived.Test.YtkofnpkopbnocaaGreatDoorPaP
import Derived.Laws.OwnMore
import Derived.Test.YtkofnpkopbnocaaGreatDoorMthP
import Derived.KernelRfl
import Derived.Test.YtkofnpkopbnocaaGreatDoorMatP
import Derived.Test.YtkofnpkopbnocaaGreatDoorKP
import Derived.Test.YtkofnpkopbnocaaGreatDoorPrP
import Derived.Test.YtkofnpkopbnocaaGreatDoorBasQ
import Derived.Test.YtkofnpkopbnocaaGreatDoorFrP
import Derived.Test.YtkofnpkopbnocaaGreatDoorC1
import Derived.OwnWalk
import Derived.Deep.RegionHeld3
import Derived.Deep.RegionHeld
import Derived.OrdersHeld
set_option maxRecDepth 100000
set_option maxHeartbeats 6400000
namespace Go.Proofs.YtkofnpkopbnocaaGreatDoor
set_option linter.unusedSimpArgs false
set_option linter.unusedVariables false
open Go.RowKit Go.Lib
open Mch (MS)
theorem X5E(va vb:Value)(m:MS)(w:World)(hs:Mch.Small m)(ha:RM w va m)(hb:RM w vb m):Calls Tryz.prog 49 #[va,vb] w fun e w'=>e= .returned (.bool true)∧Below w.heap.size w w':=by
 obtain⟨an,ag,ac,rfl,f,b,a⟩:=ha
 obtain⟨bn,bg,bc,rfl,j,i,h⟩:=hb
 have l1:=hs.n
 have l2:=hs.g
 have l3:=hs.c
 obtain⟨p1,q1,rfl⟩:=X0b f
 obtain⟨p2,q2,rfl⟩:=X0b b
 obtain⟨p3,q3,rfl⟩:=X0b a
 obtain⟨p4,q4,rfl⟩:=X0b j
 obtain⟨p5,q5,rfl⟩:=X0b i
 obtain⟨p6,q6,rfl⟩:=X0b h
 unfold mchV strV
 have bq:=hid (Below.refl w.heap.size w)
 replace f:=hid f
 replace b:=hid b
 replace a:=hid a
 replace j:=hid j
 replace i:=hid i
 replace h:=hid h
 clear hs
 go_enter Tryz.func49,Tryz.ntmps49
 replace f:=hid (X03 f.out (X04 w (.cells #[.int .i64 m.kind, .string ⟨m.d.toArray⟩, .slice p1 m.n.length q1, .slice p2 m.g.length q2, .bool m.s.on, .int .i64 m.s.kind, .bool m.s.pict, .bool m.s.odd, .slice p3 m.c.length q3] 32)))
 replace b:=hid (X03 b.out (X04 w (.cells #[.int .i64 m.kind, .string ⟨m.d.toArray⟩, .slice p1 m.n.length q1, .slice p2 m.g.length q2, .bool m.s.on, .int .i64 m.s.kind, .bool m.s.pict, .bool m.s.odd, .slice p3 m.c.length q3] 32)))
 replace a:=hid (X03 a.out (X04 w (.cells #[.int .i64 m.kind, .string ⟨m.d.toArray⟩, .slice p1 m.n.length q1, .slice p2 m.g.length q2, .bool m.s.on, .int .i64 m.s.kind, .bool m.s.pict, .bool m.s.odd, .slice p3 m.c.length q3] 32)))
 replace j:=hid (X03 j.out (X04 w (.cells #[.int .i64 m.kind, .string ⟨m.d.toArray⟩, .slice p1 m.n.length q1, .slice p2 m.g.length q2, .bool m.s.on, .int .i64 m.s.kind, .bool m.s.pict, .bool m.s.odd, .slice p3 m.c.length q3] 32)))
 replace i:=hid (X03 i.out (X04 w (.cells #[.int .i64 m.kind, .string ⟨m.d.toArray⟩, .slice p1 m.n.length q1, .slice p2 m.g.length q2, .bool m.s.on, .int .i64 m.s.kind, .bool m.s.pict, .bool m.s.odd, .slice p3 m.c.length q3] 32)))
 replace h:=hid (X03 h.out (X04 w (.cells #[.int .i64 m.kind, .string ⟨m.d.toArray⟩, .slice p1 m.n.length q1, .slice p2 m.g.length q2, .bool m.s.on, .int .i64 m.s.kind, .bool m.s.pict, .bool m.s.odd, .slice p3 m.c.length q3] 32)))
 replace bq:=hid (X05 bq.out (X04 w (.cells #[.int .i64 m.kind, .string ⟨m.d.toArray⟩, .slice p1 m.n.length q1, .slice p2 m.g.length q2, .bool m.s.on, .int .i64 m.s.kind, .bool m.s.pict, .bool m.s.odd, .slice p3 m.c.length q3] 32)))
 have xa:=hid (X0g w #[.int .i64 m.kind, .string ⟨m.d.toArray⟩, .slice p1 m.n.length q1, .slice p2 m.g.length q2, .bool m.s.on, .int .i64 m.s.kind, .bool m.s.pict, .bool m.s.odd, .slice p3 m.c.length q3] 32)
 replace f:=hid (X03 f.out (X04 (w.alloc (.cells #[.int .i64 m.kind, .string ⟨m.d.toArray⟩, .slice p1 m.n.length q1, .slice p2 m.g.length q2, .bool m.s.on, .int .i64 m.s.kind, .bool m.s.pict, .bool m.s.odd, .slice p3 m.c.length q3] 32)) (.cells #[.int .i64 m.kind, .string ⟨m.d.toArray⟩, .slice p4 m.n.length q4, .slice p5 m.g.length q5, .bool m.s.on, .int .i64 m.s.kind, .bool m.s.pict, .bool m.s.odd, .slice p6 m.c.length q6] 32)))
 replace b:=hid (X03 b.out (X04 (w.alloc (.cells #[.int .i64 m.kind, .string ⟨m.d.toArray⟩, .slice p1 m.n.length q1, .slice p2 m.g.length q2, .bool m.s.on, .int .i64 m.s.kind, .bool m.s.pict, .bool m.s.odd, .slice p3 m.c.length q3] 32)) (.cells #[.int .i64 m.kind, .string ⟨m.d.toArray⟩, .slice p4 m.n.length q4, .slice p5 m.g.length q5, .bool m.s.on, .int .i64 m.s.kind, .bool m.s.pict, .bool m.s.odd, .slice p6 m.c.length q6] 32)))
 replace a:=hid (X03 a.out (X04 (w.alloc (.cells #[.int .i64 m.kind, .string ⟨m.d.toArray⟩, .slice p1 m.n.length q1, .slice p2 m.g.length q2, .bool m.s.on, .int .i64 m.s.kind, .bool m.s.pict, .bool m.s.odd, .slice p3 m.c.length q3] 32)) (.cells #[.int .i64 m.kind, .string ⟨m.d.toArray⟩, .slice p4 m.n.length q4, .slice p5 m.g.length q5, .bool m.s.on, .int .i64 m.s.kind, .bool m.s.pict, .bool m.s.odd, .slice p6 m.c.length q6] 32)))
 replace j:=hid (X03 j.out (X04 (w.alloc (.cells #[.int .i64 m.kind, .string ⟨m.d.toArray⟩, .slice p1 m.n.length q1, .slice p2 m.g.length q2, .bool m.s.on, .int .i64 m.s.kind, .bool m.s.pict, .bool m.s.odd, .slice p3 m.c.length q3] 32)) (.cells #[.int .i64 m.kind, .string ⟨m.d.toArray⟩, .slice p4 m.n.length q4, .slice p5 m.g.length q5, .bool m.s.on, .int .i64 m.s.kind, .bool m.s.pict, .bool m.s.odd, .slice p6 m.c.length q6] 32)))
 replace i:=hid (X03 i.out (X04 (w.alloc (.cells #[.int .i64 m.kind, .string ⟨m.d.toArray⟩, .slice p1 m.n.length q1, .slice p2 m.g.length q2, .bool m.s.on, .int .i64 m.s.kind, .bool m.s.pict, .bool m.s.odd, .slice p3 m.c.length q3] 32)) (.cells #[.int .i64 m.kind, .string ⟨m.d.toArray⟩, .slice p4 m.n.length q4, .slice p5 m.g.length q5, .bool m.s.on, .int .i64 m.s.kind, .bool m.s.pict, .bool m.s.odd, .slice p6 m.c.length q6] 32)))
 replace h:=hid (X03 h.out (X04 (w.alloc (.cells #[.int .i64 m.kind, .string ⟨m.d.toArray⟩, .slice p1 m.n.length q1, .slice p2 m.g.length q2, .bool m.s.on, .int .i64 m.s.kind, .bool m.s.pict, .bool m.s.odd, .slice p3 m.c.length q3] 32)) (.cells #[.int .i64 m.kind, .string ⟨m.d.toArray⟩, .slice p4 m.n.length q4, .slice p5 m.g.length q5, .bool m.s.on, .int .i64 m.s.kind, .bool m.s.pict, .bool m.s.odd, .slice p6 m.c.length q6] 32)))
 replace xa:=hid (X02 xa.out (X04 (w.alloc (.cells #[.int .i64 m.kind, .string ⟨m.d.toArray⟩, .slice p1 m.n.length q1, .slice p2 m.g.length q2, .bool m.s.on, .int .i64 m.s.kind, .bool m.s.pict, .bool m.s.odd, .slice p3 m.c.length q3] 32)) (.cells #[.int .i64 m.kind, .string ⟨m.d.toArray⟩, .slice p4 m.n.length q4, .slice p5 m.g.length q5, .bool m.s.on, .int .i64 m.s.kind, .bool m.s.pict, .bool m.s.odd, .slice p6 m.c.length q6] 32)))
 replace bq:=hid (X05 bq.out (X04 (w.alloc (.cells #[.int .i64 m.kind, .string ⟨m.d.toArray⟩, .slice p1 m.n.length q1, .slice p2 m.g.length q2, .bool m.s.on, .int .i64 m.s.kind, .bool m.s.pict, .bool m.s.odd, .slice p3 m.c.length q3] 32)) (.cells #[.int .i64 m.kind, .string ⟨m.d.toArray⟩, .slice p4 m.n.length q4, .slice p5 m.g.length q5, .bool m.s.on, .int .i64 m.s.kind, .bool m.s.pict, .bool m.s.odd, .slice p6 m.c.length q6] 32)))
 have xb:=hid (X0g (w.alloc (.cells #[.int .i64 m.kind, .string ⟨m.d.toArray⟩, .slice p1 m.n.length q1, .slice p2 m.g.length q2, .bool m.s.on, .int .i64 m.s.kind, .bool m.s.pict, .bool m.s.odd, .slice p3 m.c.length q3] 32)) #[.int .i64 m.kind, .string ⟨m.d.toArray⟩, .slice p4 m.n.length q4, .slice p5 m.g.length q5, .bool m.s.on, .int .i64 m.s.kind, .bool m.s.pict, .bool m.s.odd, .slice p6 m.c.length q6] 32)
 rw[World.size_alloc] at xb
 have k:=X00 xa.out 0 _ rfl
 have l:=X00 xa.out 1 _ rfl
 have o:=X00 xa.out 2 _ rfl
 have p:=X00 xa.out 3 _ rfl
 have q:=X00 xa.out 4 _ rfl
 have r:=X00 xa.out 5 _ rfl
 have t:=X00 xa.out 6 _ rfl
 have u:=X00 xa.out 7 _ rfl
 have v:=X00 xa.out 8 _ rfl
 have x:=X00 xb.out 0 _ rfl
 have y:=X00 xb.out 1 _ rfl
 have z:=X00 xb.out 2 _ rfl
 have A:=X00 xb.out 3 _ rfl
 have B:=X00 xb.out 4 _ rfl
 have C:=X00 xb.out 5 _ rfl
 have D:=X00 xb.out 6 _ rfl
 have E:=X00 xb.out 7 _ rfl
 have F:=X00 xb.out 8 _ rfl
 go_wp2_with fail
 refine(X0t _ _ m.n ((w.alloc (.cells #[.int .i64 m.kind, .string ⟨m.d.toArray⟩, .slice p1 m.n.length q1, .slice p2 m.g.length q2, .bool m.s.on, .int .i64 m.s.kind, .bool m.s.pict, .bool m.s.odd, .slice p3 m.c.length q3] 32)).alloc (.cells #[.int .i64 m.kind, .string ⟨m.d.toArray⟩, .slice p4 m.n.length q4, .slice p5 m.g.length q5, .bool m.s.on, .int .i64 m.s.kind, .bool m.s.pict, .bool m.s.odd, .slice p6 m.c.length q6] 32)) (by omega) f.out j.out).mono ?_
 rintro e w2 ⟨rfl,q2⟩
 clear k l o p q r t u v x y z A B C D E F
 replace f:=hid (X03 f.out q2)
 replace b:=hid (X03 b.out q2)
 replace a:=hid (X03 a.out q2)
 replace j:=hid (X03 j.out q2)
 replace i:=hid (X03 i.out q2)
 replace h:=hid (X03 h.out q2)
 replace xa:=hid (X02 xa.out q2)
 replace xb:=hid (X02 xb.out q2)
 replace bq:=hid (X05 bq.out q2)
 clear q2
 have k:=X00 xa.out 0 _ rfl
 have l:=X00 xa.out 1 _ rfl
 have o:=X00 xa.out 2 _ rfl
 have p:=X00 xa.out 3 _ rfl
 have q:=X00 xa.out 4 _ rfl
 have r:=X00 xa.out 5 _ rfl
 have t:=X00 xa.out 6 _ rfl
 have u:=X00 xa.out 7 _ rfl
 have v:=X00 xa.out 8 _ rfl
 have x:=X00 xb.out 0 _ rfl
 have y:=X00 xb.out 1 _ rfl
 have z:=X00 xb.out 2 _ rfl
 have A:=X00 xb.out 3 _ rfl
 have B:=X00 xb.out 4 _ rfl
 have C:=X00 xb.out 5 _ rfl
 have D:=X00 xb.out 6 _ rfl
 have E:=X00 xb.out 7 _ rfl
 have F:=X00 xb.out 8 _ rfl
 go_wp2_with fail
 refine(X0t _ _ m.g w2 (by omega) b.out i.out).mono ?_
 rintro e w3 ⟨rfl,q3⟩
 clear k l o p q r t u v x y z A B C D E F
 replace f:=hid (X03 f.out q3)
 replace b:=hid (X03 b.out q3)
 replace a:=hid (X03 a.out q3)
 replace j:=hid (X03 j.out q3)
 replace i:=hid (X03 i.out q3)
 replace h:=hid (X03 h.out q3)
 replace xa:=hid (X02 xa.out q3)
 replace xb:=hid (X02 xb.out q3)
 replace bq:=hid (X05 bq.out q3)
 clear q3
 have k:=X00 xa.out 0 _ rfl
 have l:=X00 xa.out 1 _ rfl
 have o:=X00 xa.out 2 _ rfl
 have p:=X00 xa.out 3 _ rfl
 have q:=X00 xa.out 4 _ rfl
 have r:=X00 xa.out 5 _ rfl
 have t:=X00 xa.out 6 _ rfl
 have u:=X00 xa.out 7 _ rfl
 have v:=X00 xa.out 8 _ rfl
 have x:=X00 xb.out 0 _ rfl
 have y:=X00 xb.out 1 _ rfl
 have z:=X00 xb.out 2 _ rfl
 have A:=X00 xb.out 3 _ rfl
 have B:=X00 xb.out 4 _ rfl
 have C:=X00 xb.out 5 _ rfl
 have D:=X00 xb.out 6 _ rfl
 have E:=X00 xb.out 7 _ rfl
 have F:=X00 xb.out 8 _ rfl
 go_wp2_with fail
 refine(X0t _ _ m.c w3 (by omega) a.out h.out).mono ?_
 rintro e w4 ⟨rfl,q4⟩
 clear k l o p q r t u v x y z A B C D E F
 replace f:=hid (X03 f.out q4)
 replace b:=hid (X03 b.out q4)
 replace a:=hid (X03 a.out q4)
 replace j:=hid (X03 j.out q4)
 replace i:=hid (X03 i.out q4)
 replace h:=hid (X03 h.out q4)
 replace xa:=hid (X02 xa.out q4)
 replace xb:=hid (X02 xb.out q4)
 replace bq:=hid (X05 bq.out q4)
 clear q4
 go_wp2_with fail
 go_ret
 exact⟨rfl,bq.out⟩
end Go.Proofs.YtkofnpkopbnocaaGreatDoor
