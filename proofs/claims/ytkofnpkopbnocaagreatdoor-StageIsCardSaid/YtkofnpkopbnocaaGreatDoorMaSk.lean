import Derived.Test.YtkofnpkopbnocaaGreatDoorMaM
import Derived.Test.YtkofnpkopbnocaaGreatDoorBasQ
set_option linter.unusedSimpArgs false
set_option linter.unusedVariables false
set_option maxRecDepth 100000
set_option maxHeartbeats 3200000
namespace Go.Proofs.YtkofnpkopbnocaaGreatDoor
open Go.RowKit Go.Lib
open Mch (MS)
def mchV(m:MS)(vn vg vc:Value):Value:= .agg #[.int .i64 m.kind,strV m.d,vn,vg, .bool m.s.on, .int .i64 m.s.kind, .bool m.s.pict, .bool m.s.odd,vc]
def RM(w:World)(v:Value)(m:MS):Prop:=∃vn vg vc,v=mchV m vn vg vc∧RI w vn m.n∧RI w vg m.g∧RI w vc m.c
theorem X0d{w w1:World}{v:Value}{m:MS}(h:RM w v m)(hb:Below w.heap.size w w1):RM w1 v m:=by
 obtain⟨vn,vg,vc,e,h1,h2,h3⟩:=h;exact⟨vn,vg,vc,e,X03 h1 hb,X03 h2 hb,X03 h3 hb⟩
def X25(k:Int)(S:ByteArray)(pn:Option Addr)(n cn:Nat)(pg:Option Addr)(g cg:Nat)(on:Bool)(kd:Int)(pi od:Bool)(pc:Option Addr)(c cc:Nat):Array Value:=
 #[.int .i64 k, .string S, .slice pn n cn, .slice pg g cg, .bool on, .int .i64 kd, .bool pi, .bool od, .slice pc c cc]
theorem X4g{w:World}{v:Value}{m:MS}(h:RM w v m): ∃pn cn pg cg pc cc,v= .agg (X25 m.kind ⟨m.d.toArray⟩ pn m.n.length cn pg m.g.length cg m.s.on m.s.kind m.s.pict m.s.odd pc m.c.length cc):=by
 obtain⟨vn,vg,vc,rfl,h1,h2,h3⟩:=h;obtain⟨pn,cn,rfl⟩:=X0b h1;obtain⟨pg,cg,rfl⟩:=X0b h2;obtain⟨pc,cc,rfl⟩:=X0b h3;exact⟨pn,cn,pg,cg,pc,cc,rfl⟩
structure Mch.Small (m:MS):Prop where
 d:m.d.length≤1000
 n:m.n.length≤1000
 g:m.g.length≤1000
 c:m.c.length≤1000
abbrev I64(x:Int):Prop:= -9223372036854775808≤x∧x≤9223372036854775807
def ToldM(m:MS)(w:World)(e:Ending)(w':World):Prop:=∃v,e= .returned v∧RM w' v m∧Below w.heap.size w w'
def OffV(j:Nat)(u:Value):Prop:=u.ownBlock=some j→∃a c,u= .slice a 0 c
def OffM(j:Nat)(v:Value):Prop:=∀cs,v= .agg cs→∀u∈cs.toList,OffV j u
def FedM(v:Value)(q:MS × List Int)(w:World)(e:Ending)(w':World):Prop:=∃va vb,e= .returned (.tuple #[va,vb])∧RM w' va q.1∧RI w' vb q.2∧(∀j,j<w.heap.size→OffM j v→OffM j va∧OffV j vb)∧Below w.heap.size w w'
def NewC15:Prop:=∀ (k:Int) (w:World),I64 k→Calls Tryz.prog 52 #[.int .i64 k] w (ToldM (Mch.newM k) w)
def SaneC15:Prop:=∀ (v:Value) (m:MS) (w:World),Tabs w→Mch.Small m→RM w v m→Calls Tryz.prog 46 #[v] w fun e w'=>e= .returned (.bool (Mch.saneM m))∧Below w.heap.size w w'
def FeedC15:Prop:=∀ (v:Value) (m:MS) (x:Int) (w:World),Tabs w→Mch.Small m→RM w v m→I64 x→Calls Tryz.prog 57 #[v, .int .i64 x] w (FedM v (Mch.feedM m x) w)
def EndC15:Prop:=∀ (v:Value) (m:MS) (w:World),Tabs w→Mch.Small m→RM w v m→Calls Tryz.prog 58 #[v] w (FedM v (Mch.endM m) w)
def CostC15:Prop:=∀ (v:Value) (m:MS) (w:World),Tabs w→Mch.Small m→RM w v m→Calls Tryz.prog 47 #[v] w fun e w'=>e= .returned (.int .i64 (Mch.costM m:Nat))∧Below w.heap.size w w'
theorem XyL{w w1:World}(h:Tabs w)(hb:Below w.heap.size w w1):Tabs w1:=tabs_next h hb
theorem X6J(w:World)(o1 o2 o3:Obj):Below w.heap.size w (((w.alloc o1).alloc o2).alloc o3):=((X04 w o1).alloc (by simp) o2).alloc (by simp;omega) o3
def fewB(d n g c:Nat):Bool:=decide (d≤10) && decide (n≤60) && decide (g≤60) && decide (c≤60)
theorem XdS(k:Int)(S:ByteArray)(pn:Option Addr)(n cn:Nat)(pg:Option Addr)(g cg:Nat)(on:Bool)(kd:Int)(pi od:Bool)(pc:Option Addr)(c cc:Nat)(w:World):
 Calls Tryz.prog 59 #[.agg (X25 k S pn n cn pg g cg on kd pi od pc c cc)] w fun e w'=>e= .returned (.bool (fewB S.size n g c))∧Below w.heap.size w w':=by
 unfold X25;have hb:=hid (fun o=>X04 w o);by_cases h1:S.size≤10
 ·have t1:decide ((S.size:Int)≤10)=true:=decide_eq_true (by omega);by_cases h2:n≤60
  ·have t2:decide ((n:Int)≤60)=true:=decide_eq_true (by omega);by_cases h3:g≤60
   ·have t3:decide ((g:Int)≤60)=true:=decide_eq_true (by omega);by_cases h4:c≤60
    ·have t4:decide ((c:Int)≤60)=true:=decide_eq_true (by omega);have hf:fewB S.size n g c=true:=by unfold fewB;simp [h1,h2,h3,h4]
     rw[hf];clear hf;go_enter Tryz.func59,Tryz.ntmps59;go_wp2_with fail;go_ret;exact⟨rfl,hb.out _⟩
    ·have t4:decide ((c:Int)≤60)=false:=decide_eq_false (by omega);have hf:fewB S.size n g c=false:=by unfold fewB;simp [h4]
     rw[hf];clear hf;go_enter Tryz.func59,Tryz.ntmps59;go_wp2_with fail;go_ret;exact⟨rfl,hb.out _⟩
   ·have t3:decide ((g:Int)≤60)=false:=decide_eq_false (by omega);have hf:fewB S.size n g c=false:=by unfold fewB;simp [h3]
    rw[hf];clear hf;go_enter Tryz.func59,Tryz.ntmps59;go_wp2_with fail;go_ret;exact⟨rfl,hb.out _⟩
  ·have t2:decide ((n:Int)≤60)=false:=decide_eq_false (by omega);have hf:fewB S.size n g c=false:=by unfold fewB;simp [h2]
   rw[hf];clear hf;go_enter Tryz.func59,Tryz.ntmps59;go_wp2_with fail;go_ret;exact⟨rfl,hb.out _⟩
 ·have t1:decide ((S.size:Int)≤10)=false:=decide_eq_false (by omega);have hf:fewB S.size n g c=false:=by unfold fewB;simp [h1]
  rw[hf];clear hf;go_enter Tryz.func59,Tryz.ntmps59;go_wp2_with fail;go_ret;exact⟨rfl,hb.out _⟩
theorem Mch.small_new(k:Int):Mch.Small (Mch.newM k):=⟨by simp [Mch.newM,Mch.bare],by simp [Mch.newM,Mch.bare],by simp [Mch.newM,Mch.bare],by simp [Mch.newM,Mch.bare]⟩
theorem Mch.small_sane{m:MS}(h:Mch.saneM m=true):Mch.Small m:=by
 have:=Mch.Xjl ((Mch.X1b m).1 h);exact⟨by omega,by omega,by omega,by omega⟩
end Go.Proofs.YtkofnpkopbnocaaGreatDoor
