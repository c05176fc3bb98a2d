import Derived.Test.YtkofnpkopbnocaaGreatDoorStMk
import Derived.Test.YtkofnpkopbnocaaGreatDoorBasP
import Derived.Deep.LoopGhost
import Derived.Deep.DeepCutAuto
import Derived.Deep.RegionHeld3
import Derived.WalkKit
import Derived.OrdersHeld
import Derived.Test.YtkofnpkopbnocaaGreatDoorSc
import Derived.ArgAppend
set_option linter.unusedSimpArgs false
set_option linter.unusedVariables false
set_option maxRecDepth 100000
set_option maxHeartbeats 3200000
namespace Go.Proofs.YtkofnpkopbnocaaGreatDoor
open Go.RowKit Go.Lib
open Stg (Ch)
def X4l(J:Nat→Prop)(w w1:World):Prop:=w.heap.size≤w1.heap.size∧∀j,j<w.heap.size→¬J j→w1.heap[j]? =w.heap[j]?
theorem Xro(J:Nat→Prop)(w:World):X4l J w w:=⟨Nat.le_refl _,fun _ _ _=>rfl⟩
theorem X1m{J:Nat→Prop}{w w1 w2:World}(h1:X4l J w w1)(h2:X4l J w1 w2):X4l J w w2:=
 ⟨Nat.le_trans h1.1 h2.1,fun j hj hJ=>(h2.2 j (Nat.lt_of_lt_of_le hj h1.1) hJ).trans (h1.2 j hj hJ)⟩
theorem X1e{J:Nat→Prop}{w w1:World}(h:Below w.heap.size w w1):X4l J w w1:=⟨h.size,fun j hj _=>h.block j hj⟩
theorem X1T{J:Nat→Prop}(w:World)(a:Addr)(u:Value)(h:J a.block):X4l J w (w.setCell a u):=
 ⟨by simp,fun j _ hJ=>Below.heap_setCell _ _ _ _ (fun e=>hJ (by rw[e];exact h))⟩
theorem X55{J:Nat→Prop}{w w1:World}{row:Option Nat}(h:w.grownBy w1 row)(hJ: ∀j,row=some j→J j):X4l J w w1:=⟨h.size,fun j hj hr=>h.block j hj fun e=>hr (hJ j e.symm)⟩
def RIo(J:Nat→Prop)(w:World)(v:Value)(l:List Int):Prop:=RI w v l∧(l≠ []→∀j,v.ownBlock=some j→¬J j)
theorem Xcz{w:World}{v:Value}{l:List Int}(h:RI w v l):RIo (fun _=>False) w v l:=⟨h,fun _ _ _ h=>h⟩
theorem X49{J K:Nat→Prop}{w:World}{v:Value}{l:List Int}(h:RIo J w v l)(hK: ∀j,j<w.heap.size→K j→J j):RIo K w v l:=by
 refine⟨h.1,fun hl j e hj=>?_⟩;rcases h.1 with⟨rfl,_⟩ | ⟨a,c,rfl,_,h1⟩
 ·cases e
 ·obtain⟨b,o,rfl,hb,_⟩:=h1 (List.length_pos_iff.2 hl);cases e;exact h.2 hl _ rfl (hK _ hb hj)
theorem X4o{J:Nat→Prop}{w w1:World}{v:Value}{l:List Int}(h:RIo J w v l)(hs:X4l J w w1):RIo J w1 v l:=by
 refine⟨?_,h.2⟩;rcases h.1 with h1 | ⟨a,c,rfl,d,h1⟩
 ·exact .inl h1
 ·refine .inr ⟨a,c,rfl,d,fun hl=>?_⟩;obtain⟨b,o,rfl,h1,h2⟩:=h1 hl;refine⟨b,o,rfl,Nat.lt_of_lt_of_le h1 hs.1,fun i hi=>?_⟩;exact(World.cell?_of_block (w:=w) (a:=⟨b,o+i,none⟩) (hs.2 b h1 (h.2 (List.length_pos_iff.1 hl) b rfl))).trans (h2 i hi)
theorem Xzb{J:Nat→Prop}{B:Nat}{w:World}{v:Value}{l:List Int}(h:OwnI B v l w)(hJ: ∀j,B≤j→¬J j):RIo J w v l:=⟨X0a h,fun _ j e=>hJ j (XzW h j e)⟩
theorem Xrp{J:Nat→Prop}{w:World}{v:Value}{l:List Int}(h:RI w v l)(hJ: ∀j,J j→w.heap.size≤j):RIo J w v l:=by
 refine⟨h,fun hl j e hj=>?_⟩;rcases h with⟨rfl,_⟩ | ⟨a,c,rfl,_,h1⟩
 ·cases e
 ·obtain⟨b,o,rfl,hb,_⟩:=h1 (List.length_pos_iff.2 hl);cases e;exact absurd hb (Nat.not_lt.2 (hJ _ hj))
def RRo(J:Nat→Prop)(w:World)(v:Value)(ls:List (List Int)):Prop:=
 (v= .slice none 0 0∧ls= [])∨∃a cap,v= .slice (some a) ls.length cap∧ls.length≤cap∧(0<ls.length→∃b off,a=⟨b,off,none⟩∧b<w.heap.size∧¬J b∧∀i (h:i<ls.length),∃u,w.cell? ⟨b,off+i,none⟩=some u∧RIo J w u ls[i])
theorem Xzc(J:Nat→Prop)(w:World):RRo J w (.slice none 0 0) []:= .inl ⟨rfl,rfl⟩
theorem XmG{J:Nat→Prop}{w:World}{p:Option Addr}{n cap:Nat}{ls:List (List Int)}(h:RRo J w (.slice p n cap) ls)(hl:0<ls.length): ∃b off,p=some ⟨b,off,none⟩∧b<w.heap.size∧¬J b∧∀i (h:i<ls.length),∃u,w.cell? ⟨b,off+i,none⟩=some u∧RIo J w u ls[i]:=by
 rcases h with⟨_,rfl⟩ | ⟨a,cap',he,_,h⟩
 ·simp at hl
 ·simp at he;obtain⟨rfl,_,_⟩:=he;obtain⟨b,off,rfl,h1,h2⟩:=h hl;exact⟨b,off,rfl,h1,h2⟩
theorem XmH{J:Nat→Prop}{w:World}{v:Value}{ls:List (List Int)}(h:RRo J w v ls): ∃p cap,v= .slice p ls.length cap:=by
 rcases h with⟨rfl,rfl⟩ | ⟨a,cap,rfl,_⟩
 ·exact⟨none,0,rfl⟩
 ·exact⟨_,_,rfl⟩
theorem Xzd{J:Nat→Prop}{w w1:World}{v:Value}{ls:List (List Int)}(h:RRo J w v ls)(hs:X4l J w w1):RRo J w1 v ls:=by
 rcases h with h | ⟨a,c,rfl,d,h⟩
 ·exact .inl h
 ·refine .inr ⟨a,c,rfl,d,fun hl=>?_⟩;obtain⟨b,off,rfl,h1,hJ,h2⟩:=h hl;refine⟨b,off,rfl,Nat.lt_of_lt_of_le h1 hs.1,hJ,fun i hi=>?_⟩;obtain⟨u,h3,h4⟩:=h2 i hi;exact⟨u,(World.cell?_of_block (w:=w) (a:=⟨b,off+i,none⟩) (hs.2 b h1 hJ)).trans h3,X4o h4 hs⟩
theorem XmI{J K:Nat→Prop}{w:World}{v:Value}{ls:List (List Int)}(h:RRo J w v ls)(hK: ∀j,j<w.heap.size→K j→J j):RRo K w v ls:=by
 rcases h with h | ⟨a,c,rfl,d,h⟩
 ·exact .inl h
 ·refine .inr ⟨a,c,rfl,d,fun hl=>?_⟩;obtain⟨b,off,rfl,h1,hJ,h2⟩:=h hl;refine⟨b,off,rfl,h1,fun hb=>hJ (hK b h1 hb),fun i hi=>?_⟩;obtain⟨u,h3,h4⟩:=h2 i hi;exact⟨u,h3,X49 h4 hK⟩
theorem Xze{J:Nat→Prop}{w:World}{p:Option Addr}{n cap:Nat}{ls:List (List Int)}(h:RRo J w (.slice p n cap) ls):n=ls.length∧n≤cap∧(p=none→cap=0):=by
 rcases h with⟨e,rfl⟩ | ⟨a,cap',he,h1,_⟩
 ·cases e;exact⟨rfl,Nat.le_refl _,fun _=>rfl⟩
 ·cases he;exact⟨rfl,h1,fun h=>by cases h⟩
theorem XDb{J:Nat→Prop}{w:World}{b off n cap:Nat}{ls:List (List Int)}(h:RRo J w (.slice (some ⟨b,off,none⟩) n cap) ls)(k:Nat)(hk:k≤ls.length)(hl:0<ls.length):RRo J w (.slice (some ⟨b,off+k,none⟩) (n - k) (cap - k)) (ls.drop k):=by
 obtain⟨hn,hc,_⟩:=Xze h;obtain⟨b',a,e,h1,hJ,h2⟩:=XmG h hl;cases e;refine .inr ⟨_,cap - k,by rw[List.length_drop,hn],by rw[List.length_drop];omega,fun hd=>⟨b,off+k,rfl,h1,hJ,fun i hi=>?_⟩⟩;rw[List.length_drop] at hi;obtain⟨u,h3,h4⟩:=h2 (k+i) (by omega);refine⟨u,by rw[Nat.add_assoc];exact h3,?_⟩;rw[List.getElem_drop];exact h4
theorem XDc(J:Nat→Prop)(w:World)(a:Option Addr)(cap:Nat)(h:a=none→cap=0):RRo J w (.slice a 0 cap) []:=by
 cases a with
 | none=>obtain rfl:=h rfl;exact .inl ⟨rfl,rfl⟩
 | some a=>exact .inr ⟨a,cap,rfl,Nat.zero_le _,fun h=>by simp at h⟩
def RCh(J:Nat→Prop)(w:World)(v:Value)(c:Ch):Prop:=∃vl,v= .agg #[vl, .bool c.closed]∧RRo J w vl c.L
theorem X0L{J:Nat→Prop}{w w1:World}{v:Value}{c:Ch}(h:RCh J w v c)(hs:X4l J w w1):RCh J w1 v c:=by
 obtain⟨vl,e,h⟩:=h;exact⟨vl,e,Xzd h hs⟩
theorem X01{J:Nat→Prop}{w w1:World}{v:Value}{c:Ch}(h:RCh J w v c)(hs:Below w.heap.size w w1):RCh J w1 v c:=X0L h (X1e hs)
theorem X0Q{J K:Nat→Prop}{w:World}{v:Value}{c:Ch}(h:RCh J w v c)(hK: ∀j,j<w.heap.size→K j→J j):RCh K w v c:=by
 obtain⟨vl,e,h⟩:=h;exact⟨vl,e,XmI h hK⟩
theorem X0m{J:Nat→Prop}{w:World}{v:Value}{c:Ch}(h:RCh J w v c): ∃p cap,v= .agg #[.slice p c.L.length cap, .bool c.closed]∧RRo J w (.slice p c.L.length cap) c.L:=by
 obtain⟨vl,rfl,h⟩:=h;obtain⟨p,cap,rfl⟩:=XmH h;exact⟨p,cap,rfl,h⟩
theorem X5v(J:Nat→Prop)(w:World):RCh J w (.agg #[.slice none 0 0, .bool false]) ⟨[],false⟩:=⟨_,rfl,Xzc J w⟩
abbrev Up(J:Nat→Prop)(w:World):Nat→Prop:=fun j=>J j∨w.heap.size≤j
theorem Xi7{J:Nat→Prop}{w:World}{v:Value}{l:List Int}(h:RIo J w v l):RIo (Up J w) w v l:=by
 refine⟨h.1,fun hl j e hj=>?_⟩;rcases hj with hj | hj
 ·exact h.2 hl j e hj
 ·exact(Xrp (J:=fun j=>w.heap.size≤j) h.1 (fun j h=>h)).2 hl j e hj
theorem XBI{J:Nat→Prop}{w:World}{v:Value}{ls:List (List Int)}(h:RRo J w v ls):RRo (Up J w) w v ls:=by
 rcases h with h | ⟨a,c,rfl,d,h⟩
 ·exact .inl h
 ·refine .inr ⟨a,c,rfl,d,fun hl=>?_⟩;obtain⟨b,off,rfl,h1,hJ,h2⟩:=h hl;refine⟨b,off,rfl,h1,fun hb=>hb.elim hJ (fun hb=>absurd h1 (Nat.not_lt.2 hb)),fun i hi=>?_⟩;obtain⟨u,h3,h4⟩:=h2 i hi;exact⟨u,h3,Xi7 h4⟩
theorem X79{J:Nat→Prop}{w:World}{v:Value}{c:Ch}(h:RCh J w v c):RCh (Up J w) w v c:=by
 obtain⟨vl,e,h⟩:=h;exact⟨vl,e,XBI h⟩
theorem XDd{J:Nat→Prop}{w w0:World}{v:Value}{ls:List (List Int)}(h:RRo (Up J w0) w v ls):RRo J w v ls:=XmI h fun _ _ h=> .inl h
theorem XDe{J:Nat→Prop}{w w0:World}{v:Value}{l:List Int}(h:RIo (Up J w0) w v l):RIo J w v l:=X49 h fun _ _ h=> .inl h
structure Stg.Ch.Few (c:Ch):Prop where
 n:c.L.length≤1000
 b: ∀b∈c.L,b.length≤10000
abbrev Old(J:Nat→Prop)(w:World):Prop:=∀j,J j→j<w.heap.size
def ToldC(J:Nat→Prop)(c:Ch)(w:World)(e:Ending)(w':World):Prop:=∃v,e= .returned v∧RCh J w' v c∧Below w.heap.size w w'
def X9i(J:Nat→Prop)(q:Ch × Bool)(w:World)(e:Ending)(w':World):Prop:=∃v,e= .returned (.tuple #[v, .bool q.2])∧RCh J w' v q.1∧Below w.heap.size w w'
def X6j(J:Nat→Prop)(q:Ch × List Int × Bool)(w:World)(e:Ending)(w':World):Prop:=∃v vb,e= .returned (.tuple #[v,vb, .bool q.2.2])∧RCh J w' v q.1∧RIo J w' vb q.2.1∧Below w.heap.size w w'
def PutC16:Prop:=∀ (J:Nat→Prop) (v:Value) (c:Ch) (vb:Value) (b:List Int) (w:World),Old J w→c.Few→b.length≤10000→RCh J w v c→RIo J w vb b→Calls Tryz.prog 25 #[v,vb] w (X9i J (Stg.putC c b) w)
def TakeC16:Prop:=∀ (J:Nat→Prop) (v:Value) (c:Ch) (w:World),Old J w→c.Few→RCh J w v c→Calls Tryz.prog 26 #[v] w (X6j J (Stg.takeC c) w)
def CloseC16:Prop:=∀ (J:Nat→Prop) (v:Value) (c:Ch) (w:World),Old J w→c.Few→RCh J w v c→Calls Tryz.prog 24 #[v] w (ToldC J (Stg.X1y c) w)
def SpentC16:Prop:=∀ (J:Nat→Prop) (v:Value) (c:Ch) (w:World),c.Few→RCh J w v c→Calls Tryz.prog 27 #[v] w fun e w'=>e= .returned (.bool (Stg.X6T c))∧Below w.heap.size w w'
def CountC16:Prop:=∀ (J:Nat→Prop) (v:Value) (c:Ch) (w:World),c.Few→RCh J w v c→Calls Tryz.prog 31 #[v] w fun e w'=>e= .returned (.int .i64 (Stg.X1Z c:Nat))∧Below w.heap.size w w'
theorem X1n{c:Ch}(h:Stg.saneC c=true):c.Few:=by
 have:=(Stg.X11 c).1 h;exact⟨by omega,fun b hb=>by have:=(this.2 b hb).2;omega⟩
theorem X0I{w:World}{k:Nat}{cs:Array Value}{T:TypeId}(h:Blk w k cs T)(i:Nat)(u:Value):Blk (w.setCell ⟨k,i,none⟩ u) k (cs.setIfInBounds i u) T:=by
 have:=heap_setCell_same w k i cs T u h;unfold Blk;simpa using this
theorem Xrh{c:Ch}(k:Nat)(h:k<c.L.length)(hb:Stg.okB c.L[k]=false):Stg.saneC c=false:=by
 unfold Stg.saneC;rw[Bool.and_eq_false_iff];right;rw[List.all_eq_false];exact⟨c.L[k],List.getElem_mem h,by unfold Stg.okB at hb;rw[hb];simp⟩
theorem Xod{c:Ch}(h: ∀k (h:k<c.L.length),k<c.L.length→Stg.okB c.L[k]=true):Stg.saneC c=decide (c.L.length≤2):=by
 unfold Stg.saneC;rw[show (c.L.all fun b=>decide (1≤b.length) && decide (b.length≤8))=true from List.all_eq_true.2 fun b hb=>by
  obtain⟨k,hk,rfl⟩:=List.getElem_of_mem hb;exact h k hk hk]
 simp
theorem Xri(J:Nat→Prop)(v:Value)(c:Ch)(w:World)(hf:c.Few)(hv:RCh J w v c):Calls Tryz.prog 66 #[v] w fun e w'=>e= .returned (.bool (Stg.saneC c))∧Below w.heap.size w w':=by
 obtain⟨p,cap,rfl,hr⟩:=X0m hv;have i:=@Xrh c;have d:=@Xod c;obtain⟨hn,s⟩:=hf;obtain⟨E,hE⟩: ∃E,Stg.saneC c=E:=⟨_,rfl⟩;rw[hE] at i d ⊢;obtain⟨L,cl⟩:=c;dsimp only at *
 have t:=Xzd hr (X1e (X04 w (.cells #[.slice p L.length cap, .bool cl] 37)));have z:=X0g w #[.slice p L.length cap, .bool cl] 37;have q:=X00 z 0 _ rfl;have l:=hid (X04 w (.cells #[.slice p L.length cap, .bool cl] 37));obtain⟨W,hW⟩: ∃W,w.alloc (.cells #[.slice p L.length cap, .bool cl] 37)=W:=⟨_,rfl⟩;replace t:=hid t;replace i:=hid i;replace d:=hid d;replace s:=hid s;clear hE hr hv z;replace q:=hid q;rw[hW] at t q l;replace hW:=hid hW;go_enter Tryz.func66,Tryz.ntmps66;go_wp2_with fail;rw[hW.out]
 go_loopg [3] L.length (fun g vi wr=>∃k:Nat,k≤L.length∧vi= .int .i64 k∧g=L.length - k∧wr=W∧∀j (h:j<L.length),j<k→Stg.okB L[j]=true)
 case atStart=>exact⟨0,Nat.zero_le _,rfl,rfl,rfl,fun j h hj=>by omega⟩
 case round=>
  obtain⟨k,hk,rfl,rfl,rfl,o⟩:=hrel;replace q:=q.out;by_cases hlt:k<L.length
  ·have A:(k:Int)<(L.length:Int):=by omega
   obtain⟨b,off,rfl,hb,hJ,r⟩:=XmG t.out (by omega);obtain⟨u,hu,B⟩:=r k hlt;obtain⟨pk,ck,rfl⟩:=X0b B.1;have F:=s.out L[k] (List.getElem_mem hlt);have n:=i.out k hlt;have a:Stg.okB L[k]=true↔1≤L[k].length∧L[k].length≤8:=Stg.X4S _;have f:Stg.okB L[k]=true→∀j (h:j<L.length),j<k+1→Stg.okB L[j]=true:=fun h0 j h hj=>by
    by_cases e:j=k
    ·subst e;exact h0
    ·exact o j h (by omega)
   obtain⟨m,hm⟩: ∃m,L[k].length=m:=⟨_,rfl⟩;rw[hm] at hu F a;replace f:=hid f;replace o:=hid o;clear r B hm;by_cases h1:1≤m
   ·by_cases h2:m≤8
    ·have n1: ¬m<1:=by omega
     have n2: ¬8<m:=by omega
     have n3: ¬(m:Int)<1:=by omega
     have n4: ¬(8:Int)<(m:Int):=by omega
     have C:=hid (a.2 ⟨h1,h2⟩);replace a:=hid a;replace n:=hid n;clear h1 h2;go_wp2_with fail;go_roundg (L.length - (k+1))
     case measure=>omega
     case rel=>exact⟨k+1,by omega,by go_num,rfl,rfl,f.out C.out⟩
    ·have n1: ¬m<1:=by omega
     have n2:8<m:=by omega
     have n3: ¬(m:Int)<1:=by omega
     have n4:(8:Int)<(m:Int):=by omega
     have y:=hid (n (by rw[←Bool.not_eq_true];exact fun h=>h2 (a.1 h).2));replace a:=hid a;clear h1 h2 n;go_wp2_with fail;go_ret;exact⟨X0p y.out.symm,l.out⟩
   ·have n1:m<1:=by omega
    have n3:(m:Int)<1:=by omega
    have y:=hid (n (by rw[←Bool.not_eq_true];exact fun h=>h1 (a.1 h).1));replace a:=hid a;clear h1 n;go_wp2_with fail;go_ret;exact⟨X0p y.out.symm,l.out⟩
  ·obtain rfl:k=L.length:=by omega
   have A:decide ((L.length:Int)<(L.length:Int))=false:=by simp
   have x:=hid (d.out fun k h _=>o k h h);replace o:=hid o;obtain⟨D,hD⟩: ∃D,decide (L.length≤2)=D:=⟨_,rfl⟩;have G:decide ((L.length:Int)≤2)=D:=by rw[←hD];exact decide_eq_decide.2 (by omega)
   rw[hD] at x;go_wp2_with fail;go_ret;exact⟨X0p x.out.symm,l.out⟩
theorem ras16(J:Nat→Prop)(v:Value)(c:Ch)(w:World)(hf:c.Few)(hv:RCh J w v c):Calls Tryz.prog 39 #[v] w (ToldC J (Stg.asC c) w):=by
 have hs:=fun W (h:RCh J W v c)=>Xri J v c W hf h;obtain⟨p,cap,rfl,hr⟩:=X0m hv;obtain⟨S,hS⟩: ∃S,Stg.saneC c=S:=⟨_,rfl⟩;have hA:Stg.asC c=if S=true then c else ⟨[],false⟩:=by unfold Stg.asC;rw[hS]
 rw[hS] at hs;have j:=X0g w #[.slice p c.L.length cap, .bool c.closed] 37;have hb:=X0l j (.cells #[.slice none 0 0, .bool false] 37);have d:=X0g (w.alloc (.cells #[.slice p c.L.length cap, .bool c.closed] 37)) #[.slice none 0 0, .bool false] 37;rw[show (w.alloc (.cells #[.slice p c.L.length cap, .bool c.closed] 37)).heap.size=w.heap.size+1 by simp] at d;have b:Below w.heap.size w ((w.alloc (.cells #[.slice p c.L.length cap, .bool c.closed] 37)).alloc (.cells #[.slice none 0 0, .bool false] 37)):=(X04 w _).alloc (by simp) _;have f:=hid (hs _ (X01 hv b));have l:=hid (fun W h=>X01 (w1:=W) hv h)
 replace b:=hid b;replace d:=hid d;replace hb:=hid hb;replace hA:=hid hA;replace hv:=hid hv;clear j hS hs hr;obtain⟨cl,k⟩: ∃cl,c.closed=cl:=⟨_,rfl⟩;obtain⟨n,hn⟩: ∃n,c.L.length=n:=⟨_,rfl⟩;rw[k,hn] at hb d b f l ⊢;clear k hn hv;go_enter Tryz.func39,Tryz.ntmps39;go_wp2_with fail;refine f.out.mono ?_;rintro e w1 ⟨rfl,g⟩;have i:=X02 hb.out g;have a:=X02 d.out g;have c0:=X00 i 0 (.slice p n cap) rfl;have c1:=X00 i 1 (.bool cl) rfl;have f0:=X06 a 0;have f1:=X06 a 1;have d0:=X00 a 0 (.slice none 0 0) rfl;have d1:=X00 a 1 (.bool false) rfl;replace g:=hid (X05 b.out g);replace a:=hid a;clear hb b d i f
 rcases S with _ | _
 ·go_wp2_with fail;refine bodyPost_ret (v:= .agg #[.slice none 0 0, .bool false]) ?_ rfl ?_
  ·have q:=X0I (X0I a.out 0 (.slice none 0 0)) 1 (.bool false);have q0:=X00 q 0 (.slice none 0 0) rfl;have q1:=X00 q 1 (.bool false) rfl;simp [results,Tryz.results39,go_sem,q0,q1]
  ·refine⟨_,rfl,?_,(g.out.setCell (p:=⟨_,0,none⟩) (Nat.le_succ _) _).setCell (p:=⟨_,1,none⟩) (Nat.le_succ _) _⟩;rw[hA.out];exact X5v _ _
 ·go_wp2_with fail;refine bodyPost_ret (v:= .agg #[.slice p n cap, .bool cl]) ?_ rfl ?_
  ·have q:=X0I (X0I a.out 0 (.slice p n cap)) 1 (.bool cl);have q0:=X00 q 0 (.slice p n cap) rfl;have q1:=X00 q 1 (.bool cl) rfl;simp [results,Tryz.results39,go_sem,q0,q1]
  ·have hB:=(g.out.setCell (p:=⟨_,0,none⟩) (Nat.le_succ _) (.slice p n cap)).setCell (p:=⟨_,1,none⟩) (Nat.le_succ _) (.bool cl);refine⟨_,rfl,?_,hB⟩;rw[hA.out];exact l.out _ hB
def fewC(c:Ch):Bool:=decide (c.L.length≤6) && c.L.all fun b=>decide (b.length≤20)
theorem X1S{c:Ch}(h:fewC c=true):c.Few∧c.L.length≤6∧∀b∈c.L,b.length≤20:=by
 unfold fewC at h;simp only[Bool.and_eq_true,decide_eq_true_eq,List.all_eq_true] at h;exact⟨⟨by omega,fun b hb=>by have:=h.2 b hb;omega⟩,h⟩
theorem Xw0{c:Ch}(k:Nat)(h:k<c.L.length)(hb:20<(c.L[k]).length):fewC c=false:=by
 unfold fewC;rw[Bool.and_eq_false_iff];right;rw[List.all_eq_false];exact⟨c.L[k],List.getElem_mem h,by simp;omega⟩
theorem Xrj{c:Ch}(h: ∀k (h:k<c.L.length),k<c.L.length→(c.L[k]).length≤20):fewC c=decide (c.L.length≤6):=by
 unfold fewC;rw[show (c.L.all fun b=>decide (b.length≤20))=true from List.all_eq_true.2 fun b hb=>by
  obtain⟨k,hk,rfl⟩:=List.getElem_of_mem hb;have:=h k hk hk;simpa using this]
 simp
theorem X3E(J:Nat→Prop)(v:Value)(c:Ch)(w:World)(hv:RCh J w v c)(hmax:c.L.length≤maxLen):Calls Tryz.prog 33 #[v] w fun e w'=>e= .returned (.bool (fewC c))∧Below w.heap.size w w':=by
 obtain⟨p,cap,rfl,hr⟩:=X0m hv;have f:=@Xw0 c;have a:=@Xrj c;unfold maxLen at hmax;obtain⟨E,hE⟩: ∃E,fewC c=E:=⟨_,rfl⟩;rw[hE] at f a ⊢;obtain⟨L,cl⟩:=c;dsimp only at *
 have r:=Xzd hr (X1e (X04 w (.cells #[.slice p L.length cap, .bool cl] 37)));have t:=X0g w #[.slice p L.length cap, .bool cl] 37;have o:=X00 t 0 _ rfl;have l:=hid (X04 w (.cells #[.slice p L.length cap, .bool cl] 37));obtain⟨W,hW⟩: ∃W,w.alloc (.cells #[.slice p L.length cap, .bool cl] 37)=W:=⟨_,rfl⟩;replace r:=hid r;replace f:=hid f;replace a:=hid a;clear hE hr hv t;replace o:=hid o;rw[hW] at r o l;replace hW:=hid hW;go_enter Tryz.func33,Tryz.ntmps33;go_wp2_with fail;rw[hW.out]
 go_loopg [3] L.length (fun g vi wr=>∃k:Nat,k≤L.length∧vi= .int .i64 k∧g=L.length - k∧wr=W∧∀j (h:j<L.length),j<k→(L[j]).length≤20)
 case atStart=>exact⟨0,Nat.zero_le _,rfl,rfl,rfl,fun j h hj=>by omega⟩
 case round=>
  obtain⟨k,hk,rfl,rfl,rfl,i⟩:=hrel;replace o:=o.out;by_cases hlt:k<L.length
  ·have x:(k:Int)<(L.length:Int):=by omega
   obtain⟨b,off,rfl,hb,hJ,q⟩:=XmG r.out (by omega);obtain⟨u,hu,y⟩:=q k hlt;obtain⟨pk,ck,rfl⟩:=X0b y.1;have n:=f.out k hlt;have d:(L[k]).length≤20→∀j (h:j<L.length),j<k+1→(L[j]).length≤20:=fun h0 j h hj=>by
    by_cases e:j=k
    ·subst e;exact h0
    ·exact i j h (by omega)
   obtain⟨m,hm⟩: ∃m,L[k].length=m:=⟨_,rfl⟩;rw[hm] at hu n d;replace d:=hid d;replace i:=hid i;clear q y hm;by_cases h2:m≤20
   ·have n2: ¬20<m:=by omega
    have n4: ¬(20:Int)<(m:Int):=by omega
    replace n:=hid n;go_wp2_with fail;go_roundg (L.length - (k+1))
    case measure=>omega
    case rel=>exact⟨k+1,by omega,by go_num,rfl,rfl,d.out h2⟩
   ·have n2:20<m:=by omega
    have n4:(20:Int)<(m:Int):=by omega
    have z:=hid (n n2);clear h2 n;go_wp2_with fail;go_ret;exact⟨X0p z.out.symm,l.out⟩
  ·obtain rfl:k=L.length:=by omega
   have x:decide ((L.length:Int)<(L.length:Int))=false:=by simp
   have s:=hid (a.out fun k h _=>i k h h);replace i:=hid i;obtain⟨D,hD⟩: ∃D,decide (L.length≤6)=D:=⟨_,rfl⟩;have A:decide ((L.length:Int)≤6)=D:=by rw[←hD];exact decide_eq_decide.2 (by omega)
   rw[hD] at s;go_wp2_with fail;go_ret;exact⟨X0p s.out.symm,l.out⟩
theorem Xcx{J:Nat→Prop}{v:Value}{c:Ch}{w:World}(hf:c.Few)(hv:RCh J w v c):
 Calls Tryz.prog 39 #[v] w fun e w'=>∃p cap,e= .returned (.agg #[.slice p (Stg.asC c).L.length cap, .bool (Stg.asC c).closed])∧RRo J w' (.slice p (Stg.asC c).L.length cap) (Stg.asC c).L∧Below w.heap.size w w':=
 (ras16 J v c w hf hv).mono fun e w' ⟨v',he,hr,hb⟩=>by
  obtain⟨p,cap,rfl,a⟩:=X0m hr;exact⟨p,cap,he,a,hb⟩
theorem Xw2(J:Nat→Prop)(v:Value)(c:Ch)(w:World)(hf:c.Few)(hv:RCh J w v c):Calls Tryz.prog 41 #[v] w (ToldC J (Stg.X1y c) w):=by
 unfold Stg.X1y;have k:=fun W (h:RCh (Up J w) W v c)=>Xcx hf h;replace hv:=X79 hv;obtain⟨p,cap,rfl,s⟩:=X0m hv;obtain⟨d,hd⟩: ∃d,Stg.asC c=d:=⟨_,rfl⟩;have m:=Stg.X2I c;rw[hd] at k m ⊢;have j:=(Stg.X11 d).1 m;have a:Below w.heap.size w ((w.alloc (.cells #[.slice p c.L.length cap, .bool c.closed] 37)).alloc (.cells #[.slice none 0 0, .bool false] 37)):=(X04 w _).alloc (by simp) _;have b:=X0g (w.alloc (.cells #[.slice p c.L.length cap, .bool c.closed] 37)) #[.slice none 0 0, .bool false] 37
 rw[show (w.alloc (.cells #[.slice p c.L.length cap, .bool c.closed] 37)).heap.size=w.heap.size+1 by simp] at b;have g:=hid (k _ (X01 hv a));replace a:=hid a;replace b:=hid b;obtain⟨cl,o⟩: ∃cl,c.closed=cl:=⟨_,rfl⟩;obtain⟨n,hn⟩: ∃n,c.L.length=n:=⟨_,rfl⟩;rw[o,hn] at a g b ⊢;clear o hn hv k s hd m;obtain⟨L,dc⟩:=d;dsimp only at g j ⊢;obtain⟨x,r⟩:=j;replace r:=hid r;have t: ∀ (p1:Option Addr) (n1 c1:Nat) (b1:Bool) (W:World),(Instr.field 37 (.agg #[.slice p1 n1 c1, .bool b1]) 0).run Tryz.prog W= .ok (.slice p1 n1 c1) W:=fun _ _ _ _ _=>by kernel_rfl
 go_enter Tryz.func41,Tryz.ntmps41;go_wp2_with fail;refine g.out.mono ?_;rintro e w1 ⟨pd,cd,rfl,l,i⟩;have f:=X02 b.out i;have f0:=X06 f 0;have f1:=X06 f 1;have d0:=X00 f 0 (.slice none 0 0) rfl;have d1:=X00 f 1 (.bool false) rfl;have u:=X1h (X02 b.out i);replace i:=hid (X05 a.out i);replace f:=hid f;replace l:=hid l;clear a g b;go_wp2_with fail;refine bodyPost_ret (v:= .agg #[.slice pd L.length cd, .bool true]) ?_ rfl ?_
 ·have q:=X0I (X0I f.out 0 (.slice pd L.length cd)) 1 (.bool true);have q0:=X00 q 0 (.slice pd L.length cd) rfl;have q1:=X00 q 1 (.bool true) rfl;simp [results,Tryz.results41,go_sem,q0,q1]
 ·have hB:=(i.out.setCell (p:=⟨_,0,none⟩) (Nat.le_succ _) (.slice pd L.length cd)).setCell (p:=⟨_,1,none⟩) (Nat.le_succ _) (.bool true);exact⟨_,rfl,⟨_,rfl,XDd (Xzd (Xzd l.out (X1T _ ⟨w.heap.size+1,0,none⟩ _ (.inr (Nat.le_succ _)))) (X1T _ ⟨w.heap.size+1,1,none⟩ _ (.inr (Nat.le_succ _))))⟩,hB⟩
theorem XeU{w:World}{k:Nat}{a0 a1 a2:Addr}{x0 x1 x2:Value}(h:w.cell? a0=some x0∧w.cell? a1=some x1∧w.cell? a2=some x2)(n0:a0.block≠k)(n1:a1.block≠k)(n2:a2.block≠k)(u0 u1:Value):
 ((w.setCell ⟨k,0,none⟩ u0).setCell ⟨k,1,none⟩ u1).drew.cell? a0=some x0∧((w.setCell ⟨k,0,none⟩ u0).setCell ⟨k,1,none⟩ u1).drew.cell? a1=some x1∧((w.setCell ⟨k,0,none⟩ u0).setCell ⟨k,1,none⟩ u1).drew.cell? a2=some x2:=by
 have b: ∀ (a:Addr) (x:Value),w.cell? a=some x→a.block≠k→((w.setCell ⟨k,0,none⟩ u0).setCell ⟨k,1,none⟩ u1).cell? a=some x:=fun a x hx hn=>by
  rw[World.cell?_setCell_other,World.cell?_setCell_other]
  ·exact hx
  ·exact fun e=>hn (congrArg Addr.block e).symm
  ·exact fun e=>hn (congrArg Addr.block e).symm
 exact⟨b _ _ h.1 n0,b _ _ h.2.1 n1,b _ _ h.2.2 n2⟩
theorem XkN(L:List (List Int))(j:Nat)(h:j<L.length):(L.take (j+1)).flatten.length=(L.take j).flatten.length+(L[j]).length:=by
 rw[List.take_succ_eq_append_getElem h,List.flatten_append,List.flatten_cons,List.flatten_nil,List.append_nil,List.length_append]
theorem Xz9(J:Nat→Prop)(v:Value)(c:Ch)(w:World)(hf:c.Few)(hv:RCh J w v c):Calls Tryz.prog 68 #[v] w (X6j J (Stg.takeC c) w):=by
 unfold Stg.takeC;have C:=fun W (h:RCh (Up J w) W v c)=>Xcx hf h;replace hv:=X79 hv;obtain⟨p,cap,rfl,N⟩:=X0m hv;obtain⟨d,hd⟩: ∃d,Stg.asC c=d:=⟨_,rfl⟩;have E:=Stg.X2I c;rw[hd] at C E ⊢;have B:=(Stg.X11 d).1 E;have f:Below w.heap.size w ((w.alloc (.cells #[.slice p c.L.length cap, .bool c.closed] 37)).alloc (.cells #[.slice none 0 0, .bool false] 37)):=(X04 w _).alloc (by simp) _;have j:=X0g (w.alloc (.cells #[.slice p c.L.length cap, .bool c.closed] 37)) #[.slice none 0 0, .bool false] 37
 rw[show (w.alloc (.cells #[.slice p c.L.length cap, .bool c.closed] 37)).heap.size=w.heap.size+1 by simp] at j;have k:=hid (C _ (X01 hv f));replace f:=hid f;replace j:=hid j;obtain⟨cl,G⟩: ∃cl,c.closed=cl:=⟨_,rfl⟩;obtain⟨n,hn⟩: ∃n,c.L.length=n:=⟨_,rfl⟩;rw[G,hn] at f k j ⊢;clear G hn hv C N hd E;obtain⟨L,dc⟩:=d;dsimp only at k B ⊢;obtain⟨P,K⟩:=B;replace K:=hid K;go_enter Tryz.func68,Tryz.ntmps68;go_wp2_with fail;refine k.out.mono ?_;rintro e w1 ⟨pd,cd,rfl,I,o⟩;have z:=X02 j.out o;have O:=X1h z;have r:=X0g w1 #[.slice pd L.length cd, .bool dc] 37
 have i:=X0l z (.cells #[.slice pd L.length cd, .bool dc] 37);have y:=hid (Xzd I (X1e (X04 w1 (.cells #[.slice pd L.length cd, .bool dc] 37))));replace o:=hid (X05 f.out o);have A:=hid (o.out.alloc o.out.size (.cells #[.slice pd L.length cd, .bool dc] 37));obtain⟨W,hW⟩: ∃W,w1.alloc (.cells #[.slice pd L.length cd, .bool dc] 37)=W:=⟨_,rfl⟩;rw[hW] at y r i A;replace hW:=hid hW;clear f k j z I;have f0:=X06 i 0;have f1:=X06 i 1;have e0:=X00 i 0 (.slice none 0 0) rfl;have e1:=X00 i 1 (.bool false) rfl;have c0:=X00 r 0 (.slice pd L.length cd) rfl;have c1:=X00 r 1 (.bool dc) rfl;replace i:=hid i
 replace r:=hid r;have hB:=hid (fun a c b=>(A.out.setCell (p:=⟨w.heap.size+1,0,none⟩) (Nat.le_succ _) (.slice a c b)).setCell (p:=⟨w.heap.size+1,1,none⟩) (Nat.le_succ _) (.bool dc));have hq:=hid (fun a c b=>X0I (X0I i.out 0 (.slice a c b)) 1 (.bool dc));go_upto_region 2 with(fail);rw[hW.out];rcases L with _ | ⟨x,t⟩
 ·go_wp2_with fail;have q:=hq.out pd 0 cd;have q0:=X00 q 0 (.slice pd 0 cd) rfl;have q1:=X00 q 1 (.bool dc) rfl;refine bodyPost_ret (v:= .tuple #[.agg #[.slice pd 0 cd, .bool dc], .slice none 0 0, .bool false]) ?_ rfl ⟨_,_,rfl,⟨_,rfl,XDc _ _ _ _ (Xze y.out).2.2⟩,⟨X9J _,fun h=>absurd rfl h⟩,hB.out pd 0 cd⟩;simp [results,Tryz.results68,go_sem,q0,q1]
 ·obtain⟨b,off,rfl,hb,hJ,s⟩:=XmG y.out (by simp);obtain⟨u,hu,l⟩:=s 0 (by simp);obtain⟨p0,k0,rfl⟩:=X0b l.1;replace l:RIo (Up J w) W (.slice p0 x.length k0) x:=l;replace hu:W.cell? ⟨b,off,none⟩=some (.slice p0 x.length k0):=hu;obtain⟨M,D,_⟩:=Xze y.out;have H:b≠w.heap.size+1:=fun e=>hJ (.inr (by omega));have m:w1.heap.size≠w.heap.size+1:=by omega
  have g:=XDb y.out 1 (by simp) (by simp);replace g:RRo (Up J w) W (.slice (some ⟨b,off+1,none⟩) (t.length+1 - 1) (cd - 1)) t:=g;rw[show t.length+1 - 1=t.length from rfl] at g;replace g:=hid g;have n1:t.length+1≤cd:=D;clear s;replace l:=hid l;go_upto_region 4 with(fail);rcases Nat.eq_or_lt_of_le (Nat.le_trans (Nat.le_add_left 1 t.length) n1) with F | F
  ·obtain rfl:cd=1:=F.symm;obtain rfl:t= []:=List.eq_nil_of_length_eq_zero (by omega);replace c0:W.cell? ⟨w1.heap.size,0,none⟩=some (.slice (some ⟨b,off,none⟩) 1 1):=c0;have HS:=hid (fun u0 u1=>XeU ⟨c0,c1,hu⟩ m m H u0 u1)
   go_region_held3 (fun w'=>w'.cell? ⟨w1.heap.size,0,none⟩=some (.slice (some ⟨b,off,none⟩) 1 1)∧w'.cell? ⟨w1.heap.size,1,none⟩=some (.bool dc)∧w'.cell? ⟨b,off,none⟩=some (.slice p0 x.length k0)) (first | with_reducible exact HS.out _ _ | go_keep) (fail)
   all_goals
    go_wp2_with fail;have q:=hq.out (some ⟨b,off,none⟩) 0 0;have q0:=X00 q 0 (.slice (some ⟨b,off,none⟩) 0 0) rfl;have q1:=X00 q 1 (.bool dc) rfl;have hO:X4l (Up J w) W ((W.setCell ⟨w.heap.size+1,0,none⟩ (.slice (some ⟨b,off,none⟩) 0 0)).setCell ⟨w.heap.size+1,1,none⟩ (.bool dc)):=X1m (X1T _ ⟨w.heap.size+1,0,none⟩ _ (.inr (Nat.le_succ _))) (X1T _ ⟨w.heap.size+1,1,none⟩ _ (.inr (Nat.le_succ _)))
    refine bodyPost_ret (v:= .tuple #[.agg #[.slice (some ⟨b,off,none⟩) 0 0, .bool dc], .slice p0 x.length k0, .bool true]) ?_ rfl ⟨_,_,rfl,⟨_,rfl,XDc _ _ _ _ (fun h=>by cases h)⟩,XDe (w0:=w) (show RIo (Up J w) ((W.setCell ⟨w.heap.size+1,0,none⟩ (.slice (some ⟨b,off,none⟩) 0 0)).setCell ⟨w.heap.size+1,1,none⟩ (.bool dc)) _ _ from X4o l.out hO),X05 (hB.out (some ⟨b,off,none⟩) 0 0) (Below.refl _ _).drew⟩;simp [results,Tryz.results68,go_sem,q0,q1]
  ·replace c0:W.cell? ⟨w1.heap.size,0,none⟩=some (.slice (some ⟨b,off,none⟩) (t.length+1) cd):=c0;have HS:=hid (fun u0 u1=>XeU ⟨c0,c1,hu⟩ m m H u0 u1);have n2:(1:Int)<(cd:Int):=by omega
   have n3:(1:Int)≤(t.length:Int)+1:=by omega
   have n4:(t.length:Int)+1≤(cd:Int):=by omega
   go_region_held3 (fun w'=>w'.cell? ⟨w1.heap.size,0,none⟩=some (.slice (some ⟨b,off,none⟩) (t.length+1) cd)∧w'.cell? ⟨w1.heap.size,1,none⟩=some (.bool dc)∧w'.cell? ⟨b,off,none⟩=some (.slice p0 x.length k0)) (first | with_reducible exact HS.out _ _ | go_keep) (fail)
   all_goals
    go_wp2_with fail;have q:=hq.out (some ⟨b,off+1,none⟩) t.length (cd - 1);have q0:=X00 q 0 (.slice (some ⟨b,off+1,none⟩) t.length (cd - 1)) rfl;have q1:=X00 q 1 (.bool dc) rfl;have hO:X4l (Up J w) W ((W.setCell ⟨w.heap.size+1,0,none⟩ (.slice (some ⟨b,off+1,none⟩) t.length (cd - 1))).setCell ⟨w.heap.size+1,1,none⟩ (.bool dc)):=X1m (X1T _ ⟨w.heap.size+1,0,none⟩ _ (.inr (Nat.le_succ _))) (X1T _ ⟨w.heap.size+1,1,none⟩ _ (.inr (Nat.le_succ _)))
    refine bodyPost_ret (v:= .tuple #[.agg #[.slice (some ⟨b,off+1,none⟩) t.length (cd - 1), .bool dc], .slice p0 x.length k0, .bool true]) ?_ rfl ⟨_,_,rfl,⟨_,rfl,XDd (w0:=w) (show RRo (Up J w) ((W.setCell ⟨w.heap.size+1,0,none⟩ (.slice (some ⟨b,off+1,none⟩) t.length (cd - 1))).setCell ⟨w.heap.size+1,1,none⟩ (.bool dc)) _ _ from Xzd g.out hO)⟩,XDe (w0:=w) (show RIo (Up J w) ((W.setCell ⟨w.heap.size+1,0,none⟩ (.slice (some ⟨b,off+1,none⟩) t.length (cd - 1))).setCell ⟨w.heap.size+1,1,none⟩ (.bool dc)) _ _ from X4o l.out hO),X05 (hB.out (some ⟨b,off+1,none⟩) t.length (cd - 1)) (Below.refl _ _).drew⟩
    simp [results,Tryz.results68,go_sem,q0,q1]
theorem Xw4:(Tryz.prog.info? 24).map (fun i=>(i.zero,i.size,i.bytes))=some (some (.slice none 0 0),1,24):=by kernel_rfl
theorem Xrk(w:World)(v:Value)(T:TypeId):Src (w.alloc (.cells #[v] T)) (.slice (some ⟨w.heap.size,0,none⟩) 1 1) [v]:=by
 refine .inr ⟨_,1,rfl,fun j u hu=>?_⟩;cases j with
 |
  zero=>
  simp at hu;subst hu;exact X00 (X0g w _ _) 0 _ rfl
 | succ j=>simp at hu
theorem Xrl(B:Nat)(w:World)(T:TypeId)(us:List Value)(hB:B≤w.heap.size)(hm:us.length≤maxLen):(w.alloc (.cells us.toArray T)).ownsRow B T 1 (.slice (some ⟨w.heap.size,0,none⟩) us.length us.length) us.length us:=by
 refine⟨by simp, .inr ⟨w.heap.size,us.length,us.toArray,rfl,hB,heap_alloc_new w _,Nat.le_refl _,hm,by simp,?_⟩⟩;rw[Nat.mul_one];exact List.take_of_length_le (by simp)
theorem Xi5{B:Nat}{v:Value}{n:Nat}{us:List Value}{T:TypeId}{w:World}(h:w.ownsRow B T 1 v n us)(a:Addr)(u:Value)(hne:a.block<B):(w.setCell a u).ownsRow B T 1 v n us:=by
 refine⟨h.1,?_⟩;rcases h.2 with h2 | ⟨g,cap,b,rfl,hg,hh,r⟩
 ·exact .inl h2
 ·refine .inr ⟨g,cap,b,rfl,hg,?_,r⟩;rw[heap_setCell_other w a g u (by omega)];exact hh
theorem XkO{B:Nat}{v:Value}{n:Nat}{us:List Value}{T:TypeId}{w w1:World}(h:w.ownsRow B T 1 v n us)(hb:Below w.heap.size w w1):w1.ownsRow B T 1 v n us:=by
 refine⟨h.1,?_⟩;rcases h.2 with h2 | ⟨g,cap,a,rfl,hg,hh,r⟩
 ·exact .inl h2
 ·refine .inr ⟨g,cap,a,rfl,hg,?_,r⟩;rw[hb.block g (Array.getElem?_eq_some_iff.1 hh).1];exact hh
theorem Xw5{J:Nat→Prop}{w:World}{p:Option Addr}{n cap:Nat}{ls:List (List Int)}(h:RRo J w (.slice p n cap) ls): ∃us:List Value,us.length=ls.length∧Src w (.slice p n cap) us∧(∀u∈us,u.oneCell'=true)∧∀ (i:Nat) (u:Value) (l:List Int),us[i]? =some u→ls[i]? =some l→RIo J w u l:=by
 by_cases hl:0<ls.length
 ·obtain⟨b,off,rfl,hb,hJ,hc⟩:=XmG h hl;obtain⟨hn,g,_⟩:=Xze h;subst hn;have hg: ∀i,i<ls.length→((List.range ls.length).map fun i=>(w.cell? ⟨b,off+i,none⟩).getD undef)[i]? =w.cell? ⟨b,off+i,none⟩:=fun i hi=>by
   obtain⟨u,hu,_⟩:=hc i hi;simp [hi,hu]
  refine⟨(List.range ls.length).map fun i=>(w.cell? ⟨b,off+i,none⟩).getD undef,by simp, .inr ⟨⟨b,off,none⟩,cap,by simp,fun j u hu=>?_⟩,fun u hu=>?_,fun i u l hu d=>?_⟩
  ·have hj:j<ls.length:=by
    have:=(List.getElem?_eq_some_iff.1 hu).1;simpa using this
   rw[hg j hj] at hu;have f:(⟨b,off,none⟩:Addr).add j=⟨b,off+j,none⟩:=by unfold Addr.add;split <;> simp_all
   rw[f];exact hu
  ·obtain⟨i,hi,rfl⟩:=List.mem_map.1 hu;obtain⟨u,e,hr⟩:=hc i (by simpa using hi);obtain⟨p,c,rfl⟩:=X0b hr.1;simp [e];rfl
  ·have hi:i<ls.length:=(List.getElem?_eq_some_iff.1 d).1;obtain⟨u2,e,hr⟩:=hc i hi;rw[hg i hi,e] at hu;rw[List.getElem?_eq_getElem hi] at d;cases hu;cases d;exact hr
 ·obtain rfl:ls= []:=List.eq_nil_of_length_eq_zero (by omega);obtain⟨hn,_,hp⟩:=Xze h;subst hn;cases p with
  | none=>obtain rfl:=hp rfl;exact⟨[],rfl, .inl ⟨rfl,rfl⟩,fun u h=>(by cases h),fun i u l h=>(by simp at h)⟩
  | some a=>exact⟨[],rfl, .inr ⟨a,cap,rfl,fun j u h=>(by simp at h)⟩,fun u h=>(by cases h),fun i u l h=>(by simp at h)⟩
theorem Xza{J:Nat→Prop}{B:Nat}{w:World}{v:Value}{ls:List (List Int)}{us:List Value}(h:w.ownsRow B 24 1 v ls.length us)(hn:us.length=ls.length)(hJ: ∀j,B≤j→¬J j)
 (hr: ∀ (i:Nat) (u:Value) (l:List Int),us[i]? =some u→ls[i]? =some l→RIo J w u l):RRo J w v ls:=by
 have hc:=fun g hg=>World.ownsRow.cells (g:=g) h hg;have c:=World.ownsRow.lt h;rcases h.2 with⟨rfl,hl⟩ | ⟨g,cap,d,rfl,hB,_,a,_⟩
 ·exact .inl ⟨rfl,List.eq_nil_of_length_eq_zero hl⟩
 ·refine .inr ⟨⟨g,0,none⟩,cap,rfl,a,fun _=>⟨g,0,rfl,(c g rfl).2,hJ g hB,fun i hi=>?_⟩⟩;have hu:us[i]? =some (us[i]'(by omega)):=List.getElem?_eq_getElem (by omega);refine⟨us[i]'(by omega),?_,hr i _ _ hu (List.getElem?_eq_getElem hi)⟩;have h:=hc g rfl i _ hu;have b:(⟨g,0,none⟩:Addr).add i=⟨g,i,none⟩:=by unfold Addr.add;split <;> simp_all
  rw[b] at h;simpa using h
theorem Xcy{w w1:World}{k:Nat}{cs:Array Value}{T:TypeId}{row:Option Nat}(h:Blk w k cs T)(hg:w.grownBy w1 row)(hne:some k≠row):Blk w1 k cs T:=by
 unfold Blk at *
 rw[hg.block k (Array.getElem?_eq_some_iff.1 h).1 hne];exact h
theorem Xi6{B n:Nat}{v:Value}{us:List Value}{T:TypeId}{w:World}(h:w.ownsRow B T 1 v n us){k:Nat}(hk:k<B):some k≠v.ownBlock:=fun e=>by
 have:=(World.ownsRow.lt h k e.symm).1;omega
theorem XbE{J:Nat→Prop}{B n:Nat}{v:Value}{us:List Value}{T:TypeId}{w w0:World}(h:w.ownsRow B T 1 v n us)(hB:w0.heap.size≤B): ∀j,v.ownBlock=some j→Up J w0 j:=fun j e=> .inr (Nat.le_trans hB (World.ownsRow.lt h j e).1)
theorem Xrm{J:Nat→Prop}{w:World}{us:List Value}{ls:List (List Int)}{u:Value}{l:List Int}(hn:us.length=ls.length)(h: ∀ (i:Nat) (u:Value) (l:List Int),us[i]? =some u→ls[i]? =some l→RIo J w u l)(hu:RIo J w u l):
 ∀ (i:Nat) (x:Value) (y:List Int),(us++ [u])[i]? =some x→(ls++ [l])[i]? =some y→RIo J w x y:=by
 intro i x y hx hy;by_cases hi:i<us.length
 ·rw[List.getElem?_append_left hi] at hx;rw[List.getElem?_append_left (by omega)] at hy;exact h i x y hx hy
 ·have a:i=us.length:=by
   have:=(List.getElem?_eq_some_iff.1 hx).1;simp at this;omega
  subst a;rw[List.getElem?_append_right (Nat.le_refl _),Nat.sub_self] at hx;rw[List.getElem?_append_right (by omega),hn,Nat.sub_self] at hy;simp at hx hy;subst hx;subst hy;exact hu
theorem XBH(J:Nat→Prop)(v:Value)(c:Ch)(vb:Value)(b:List Int)(w:World)(hold:Old J w)(hf:c.Few)(hbl:b.length≤10000)(hv:RCh J w v c)(U:RIo J w vb b):Calls Tryz.prog 67 #[v,vb] w (X9i J (Stg.putC c b) w):=by
 unfold Stg.putC;obtain⟨i0,hi,ak,al,am⟩:=info_parts Xw4;have C:=Stg.X4S b;replace U:=Xi7 U;obtain⟨pb,cb,rfl⟩:=X0b U.1;have a2:=fun W (h:RCh (Up J w) W v c)=>Xcx hf h;replace hv:=X79 hv;obtain⟨p,cap,rfl,ao⟩:=X0m hv;obtain⟨d,hd⟩: ∃d,Stg.asC c=d:=⟨_,rfl⟩;have aa:=Stg.X2I c;rw[hd] at a2 aa ⊢;have V:=(Stg.X11 d).1 aa;have s:Below w.heap.size w ((w.alloc (.cells #[.slice p c.L.length cap, .bool c.closed] 37)).alloc (.cells #[.slice none 0 0, .bool false] 37)):=(X04 w _).alloc (by simp) _;have x:=X0g (w.alloc (.cells #[.slice p c.L.length cap, .bool c.closed] 37)) #[.slice none 0 0, .bool false] 37
 rw[show (w.alloc (.cells #[.slice p c.L.length cap, .bool c.closed] 37)).heap.size=w.heap.size+1 by simp] at x;have y:=hid (a2 _ (X01 hv s));replace s:=hid s;replace x:=hid x;obtain⟨cl,ae⟩: ∃cl,c.closed=cl:=⟨_,rfl⟩;obtain⟨n,hn⟩: ∃n,c.L.length=n:=⟨_,rfl⟩;rw[ae,hn] at s y x ⊢;clear ae hn hv a2 ao hd aa;obtain⟨L,dc⟩:=d;dsimp only at y V ⊢;obtain⟨ar,ah⟩:=V;replace ah:=hid ah;have a0:=hid (fun W (h:X4l (Up J w) w W)=>X4o U h);clear U;obtain⟨OK,ad⟩: ∃OK,Stg.okB b=OK:=⟨_,rfl⟩;rw[ad] at C ⊢;obtain⟨m,hm⟩: ∃m,b.length=m:=⟨_,rfl⟩;rw[hm] at C hbl a0 ⊢;replace hold:=hid hold;clear ad
 obtain⟨Q,hQ⟩: ∃Q,(if OK=true∧dc=false∧L.length<2 then ((⟨L++ [b],false⟩:Ch),true) else (⟨L,dc⟩,false))=Q:=⟨_,rfl⟩;rw[hQ];replace hQ:=hid hQ;replace hm:=hid hm;replace C:=hid C;go_enter Tryz.func67,Tryz.ntmps67;go_wp2_with fail;refine y.out.mono ?_;rintro e w1 ⟨pd,cd,rfl,af,M⟩;have R:=X02 x.out M;have ap:=X1h R;have N:=X0g w1 #[.slice pd L.length cd, .bool dc] 37;have r:=X0l R (.cells #[.slice pd L.length cd, .bool dc] 37);have I:=hid (Xzd af (X1e (X04 w1 (.cells #[.slice pd L.length cd, .bool dc] 37))));replace M:=hid (X05 s.out M)
 have F:=hid (M.out.alloc M.out.size (.cells #[.slice pd L.length cd, .bool dc] 37));have ai:w1.heap.size<(w1.alloc (.cells #[.slice pd L.length cd, .bool dc] 37)).heap.size:=by simp
 obtain⟨W,hW⟩: ∃W,w1.alloc (.cells #[.slice pd L.length cd, .bool dc] 37)=W:=⟨_,rfl⟩;rw[hW] at I N r F ai;replace hW:=hid hW;clear s y x R af;have f0:=X06 r 0;have f1:=X06 r 1;have e0:=X00 r 0 (.slice none 0 0) rfl;have e1:=X00 r 1 (.bool false) rfl;have c0:=X00 N 0 (.slice pd L.length cd) rfl;have c1:=X00 N 1 (.bool dc) rfl;replace r:=hid r;replace N:=hid N;go_upto_region 2 with(fail);rw[hW.out];have hB:=hid (fun a c b z=>(F.out.setCell (p:=⟨w.heap.size+1,0,none⟩) (Nat.le_succ _) (.slice a c b)).setCell (p:=⟨w.heap.size+1,1,none⟩) (Nat.le_succ _) (.bool z))
 have hq:=hid (fun a c b z=>X0I (X0I r.out 0 (.slice a c b)) 1 (.bool z));by_cases h1:m<1
 ·have n1:(m:Int)<1:=by omega
  have t:=hid (show ¬(OK=true∧dc=false∧L.length<2) from fun h=>by have:=C.out.1 h.1;omega);go_wp2_with fail;have q:=hq.out pd L.length cd dc;have q0:=X00 q 0 (.slice pd L.length cd) rfl;have q1:=X00 q 1 (.bool dc) rfl;have hO:X4l (Up J w) W ((W.setCell ⟨w.heap.size+1,0,none⟩ (.slice pd L.length cd)).setCell ⟨w.heap.size+1,1,none⟩ (.bool dc)):=X1m (X1T _ ⟨w.heap.size+1,0,none⟩ _ (.inr (Nat.le_succ _))) (X1T _ ⟨w.heap.size+1,1,none⟩ _ (.inr (Nat.le_succ _)))
  refine bodyPost_ret (v:= .tuple #[.agg #[.slice pd L.length cd, .bool dc], .bool false]) ?_ rfl ⟨_,by rw[←hQ.out,if_neg t.out],by rw[←hQ.out,if_neg t.out];exact⟨_,rfl,XDd (Xzd I.out hO)⟩,hB.out pd L.length cd dc⟩;simp [results,Tryz.results67,go_sem,q0,q1]
 ·have n1: ¬(m:Int)<1:=by omega
  by_cases h2:8<m
  ·have n2:(8:Int)<(m:Int):=by omega
   have t:=hid (show ¬(OK=true∧dc=false∧L.length<2) from fun h=>by have:=C.out.1 h.1;omega);go_wp2_with fail;have q:=hq.out pd L.length cd dc;have q0:=X00 q 0 (.slice pd L.length cd) rfl;have q1:=X00 q 1 (.bool dc) rfl;have hO:X4l (Up J w) W ((W.setCell ⟨w.heap.size+1,0,none⟩ (.slice pd L.length cd)).setCell ⟨w.heap.size+1,1,none⟩ (.bool dc)):=X1m (X1T _ ⟨w.heap.size+1,0,none⟩ _ (.inr (Nat.le_succ _))) (X1T _ ⟨w.heap.size+1,1,none⟩ _ (.inr (Nat.le_succ _)))
   refine bodyPost_ret (v:= .tuple #[.agg #[.slice pd L.length cd, .bool dc], .bool false]) ?_ rfl ⟨_,by rw[←hQ.out,if_neg t.out],by rw[←hQ.out,if_neg t.out];exact⟨_,rfl,XDd (Xzd I.out hO)⟩,hB.out pd L.length cd dc⟩;simp [results,Tryz.results67,go_sem,q0,q1]
  ·have n2: ¬(8:Int)<(m:Int):=by omega
   have aj:=hid (C.out.2 ⟨by omega,by omega⟩);rcases dc with _ | _
   ·by_cases h3:2≤L.length
    ·have n3:(2:Int)≤(L.length:Int):=by omega
     have t:=hid (show ¬(OK=true∧false=false∧L.length<2) from fun h=>by omega);go_wp2_with fail;have q:=hq.out pd L.length cd false;have q0:=X00 q 0 (.slice pd L.length cd) rfl;have q1:=X00 q 1 (.bool false) rfl;have hO:X4l (Up J w) W ((W.setCell ⟨w.heap.size+1,0,none⟩ (.slice pd L.length cd)).setCell ⟨w.heap.size+1,1,none⟩ (.bool false)):=X1m (X1T _ ⟨w.heap.size+1,0,none⟩ _ (.inr (Nat.le_succ _))) (X1T _ ⟨w.heap.size+1,1,none⟩ _ (.inr (Nat.le_succ _)))
     refine bodyPost_ret (v:= .tuple #[.agg #[.slice pd L.length cd, .bool false], .bool false]) ?_ rfl ⟨_,by rw[←hQ.out,if_neg t.out],by rw[←hQ.out,if_neg t.out];exact⟨_,rfl,XDd (Xzd I.out hO)⟩,hB.out pd L.length cd false⟩;simp [results,Tryz.results67,go_sem,q0,q1]
    ·have n3: ¬(2:Int)≤(L.length:Int):=by omega
     have h4:L.length<2:=by omega
     have a3:=X04 W (.cells ([]:List Value).toArray 24);obtain⟨us,T,S,O,E⟩:=Xw5 (Xzd I.out (X1e a3));have A:=hid (Xrl (w.heap.size+2) W 24 [] (by omega) (Nat.zero_le _));have a4:=hid (X05 F.out a3);replace S:=hid S;replace O:=hid O;replace E:=hid E;have G:us.length≤1:=by omega
     have hz:=a4.out.size;have H:w.heap.size+2≤(W.alloc (.cells ([]:List Value).toArray 24)).heap.size:=by simp;omega
     have a5:0+us.length≤maxLen:=by unfold maxLen;omega
     have a6:(0+us.length) *24≤140737488355328:=by omega
     replace H:=hid H;replace a5:=hid a5;replace a6:=hid a6;replace G:=hid G;replace T:=hid T;clear hz a3;go_upto_region 5 with(at_builtin;(refine X0c rfl _ _ 35 rfl (w.heap.size+2) 24 i0 (.slice none 0 0) 24 Tryz.underlying35 hi ak al am rfl _ _ _ rfl A.out _ _ rfl S.out O.out a5.out a6.out H.out ?_);intro v5 w5 P f);have O5:=X1m (X1e (J:=Up J w) (X04 W (.cells ([]:List Value).toArray 24))) (X55 f (XbE A.out (by omega)));have V5: ∀ (i:Nat) (u:Value) (l:List Int),us[i]? =some u→L[i]? =some l→RIo (Up J w) w5 u l:=fun i u l h1 h2=>X4o (E.out i u l h1 h2) (X55 f (XbE A.out (by omega)))
     have b5:=X0k a4.out f a4.out.size A.out (by omega);have x5:=Xcy (X0l r.out (.cells ([]:List Value).toArray 24)) f (Xi6 A.out (by omega));have B:=hid (XkO (by simpa using P) (X04 w5 (.cells #[.slice pb m cb] 24)):(w5.alloc (.cells #[.slice pb m cb] 24)).ownsRow (w.heap.size+2) 24 1 v5 us.length us);have an:=hid (Xrk w5 (.slice pb m cb) 24);have b6:=hid (b5.alloc b5.size (.cells #[.slice pb m cb] 24));have x6:=hid (X0l x5 (.cells #[.slice pb m cb] 24));have O6:=hid (X1m O5 (X1e (J:=Up J w) (X04 w5 (.cells #[.slice pb m cb] 24))))
     have V6:=hid (fun i u l h1 h2=>X4o (V5 i u l h1 h2) (X1e (J:=Up J w) (X04 w5 (.cells #[.slice pb m cb] 24))));have ab:w.heap.size+2≤(w5.alloc (.cells #[.slice pb m cb] 24)).heap.size:=by
      have h5:=f.size;have:=H.out;simp at h5 this ⊢;omega
     have a7:us.length+1≤maxLen:=by have:=G.out;unfold maxLen;omega
     have a8:(us.length+1) *24≤140737488355328:=by have:=G.out;omega
     replace ab:=hid ab;replace a7:=hid a7;replace a8:=hid a8;have a9:=hid (show ∀u∈ [Value.slice pb m cb],u.oneCell'=true from fun u hu=>by rw[List.mem_singleton.1 hu];rfl);clear P f O5 V5 b5 x5 e0 e1 c0 c1 f0 f1;go_upto_region 6 with(at_builtin;(refine X0c rfl _ _ 35 rfl (w.heap.size+2) 24 i0 (.slice none 0 0) 24 Tryz.underlying35 hi ak al am rfl _ _ _ rfl B.out _ _ rfl an.out a9.out a7.out a8.out ab.out ?_);intro v7 w7 D o);have O7:=X1m O6.out (X55 o (XbE B.out (by omega)))
     have V7: ∀ (i:Nat) (u:Value) (l:List Int),us[i]? =some u→L[i]? =some l→RIo (Up J w) w7 u l:=fun i u l h1 h2=>X4o (V6.out i u l h1 h2) (X55 o (XbE B.out (by omega)));have b7:=X0k b6.out o b6.out.size B.out (by omega);have x7:=Xcy x6.out o (Xi6 B.out (by omega));have ac:=a0 w7 (X1m (X1e F.out) O7);have K:=Xrm T.out V7 ac;have g0:=X06 x7 0;have g1:=X06 x7 1;have d0:=X00 x7 0 (.slice none 0 0) rfl;have d1:=X00 x7 1 (.bool false) rfl;obtain⟨p7,n7,k7,rfl⟩: ∃p n k,v7= .slice p n k:=by
      rcases D.2 with⟨rfl,_⟩ | ⟨g,cap,aq,rfl,_⟩ <;> exact⟨_,_,_,rfl⟩
     have h7:=hid D;have y7:=hid (X0I (X0I x7 0 (.slice p7 n7 k7)) 1 (.bool false));have B7:=hid ((b7.setCell (p:=⟨w.heap.size+1,0,none⟩) (Nat.le_succ _) (.slice p7 n7 k7)).setCell (p:=⟨w.heap.size+1,1,none⟩) (Nat.le_succ _) (.bool false));replace K:=hid K;replace b7:=hid b7;replace O7:=hid O7;replace ac:=hid ac;replace V7:=hid V7;replace x7:=hid x7;clear D o;go_wp2_with fail;have q0:=X00 y7.out 0 (.slice p7 n7 k7) rfl;have q1:=X00 y7.out 1 (.bool false) rfl
     have hO:X4l (Up J w) w7 ((w7.setCell ⟨w.heap.size+1,0,none⟩ (.slice p7 n7 k7)).setCell ⟨w.heap.size+1,1,none⟩ (.bool false)):=X1m (X1T _ ⟨w.heap.size+1,0,none⟩ _ (.inr (Nat.le_succ _))) (X1T _ ⟨w.heap.size+1,1,none⟩ _ (.inr (Nat.le_succ _)));have ag:=Xi5 (Xi5 h7.out ⟨w.heap.size+1,0,none⟩ (.slice p7 n7 k7) (Nat.lt_succ_self _)) ⟨w.heap.size+1,1,none⟩ (.bool false) (Nat.lt_succ_self _);have a1:=hQ.out;rw[if_pos ⟨aj.out,by trivial,h4⟩] at a1
     refine bodyPost_ret (v:= .tuple #[.agg #[.slice p7 n7 k7, .bool false], .bool true]) ?_ rfl ⟨_,by rw[←a1],by rw[←a1];exact⟨_,rfl,Xza (us:=us++ [.slice pb m cb]) (by simpa [T.out] using ag) (by simp [T.out]) (fun j hj hJ=>by have:=hold.out j hJ;omega) (fun i u l h1 h2=>XDe (X4o (K.out i u l h1 h2) hO))⟩,B7.out⟩;simp [results,Tryz.results67,go_sem,q0,q1]
   ·have t:=hid (show ¬(OK=true∧true=false∧L.length<2) from fun h=>by simp at h);go_wp2_with fail;have q:=hq.out pd L.length cd true;have q0:=X00 q 0 (.slice pd L.length cd) rfl;have q1:=X00 q 1 (.bool true) rfl;have hO:X4l (Up J w) W ((W.setCell ⟨w.heap.size+1,0,none⟩ (.slice pd L.length cd)).setCell ⟨w.heap.size+1,1,none⟩ (.bool true)):=X1m (X1T _ ⟨w.heap.size+1,0,none⟩ _ (.inr (Nat.le_succ _))) (X1T _ ⟨w.heap.size+1,1,none⟩ _ (.inr (Nat.le_succ _)))
    refine bodyPost_ret (v:= .tuple #[.agg #[.slice pd L.length cd, .bool true], .bool false]) ?_ rfl ⟨_,by rw[←hQ.out,if_neg t.out],by rw[←hQ.out,if_neg t.out];exact⟨_,rfl,XDd (Xzd I.out hO)⟩,hB.out pd L.length cd true⟩;simp [results,Tryz.results67,go_sem,q0,q1]
theorem Xrn(J K:Nat→Prop)(va vb:Value)(a b:Ch)(w:World)(hfa:a.Few)(ha:RCh J w va a)(hb:RCh K w vb b):Calls Tryz.prog 45 #[va,vb] w fun e w'=>e= .returned (.bool (decide (a=b)))∧Below w.heap.size w w':=by
 obtain⟨pa,ca,rfl,L⟩:=X0m ha;obtain⟨pb,cb,rfl,M⟩:=X0m hb;obtain⟨V,C⟩:=hfa;obtain⟨la,xa⟩:=a;obtain⟨lb,xb⟩:=b;dsimp only at *
 have i:la≠lb∨xa≠xb→decide ((⟨la,xa⟩:Ch)=⟨lb,xb⟩)=false:=fun h=>by
  rw[decide_eq_false_iff_not,Ch.mk.injEq];intro h2;rcases h with h | h
  ·exact h h2.1
  ·exact h h2.2
 have l:la=lb→xa=xb→decide ((⟨la,xa⟩:Ch)=⟨lb,xb⟩)=true:=fun h h2=>by rw[h,h2];simp
 obtain⟨E,hE⟩: ∃E,decide ((⟨la,xa⟩:Ch)=⟨lb,xb⟩)=E:=⟨_,rfl⟩;rw[hE] at i l ⊢;obtain⟨na,m⟩: ∃n,la.length=n:=⟨_,rfl⟩;obtain⟨nb,q⟩: ∃n,lb.length=n:=⟨_,rfl⟩;rw[m] at V;rw[m,q];replace m:=hid m;replace q:=hid q;have hB:Below w.heap.size w ((w.alloc (.cells #[.slice pa na ca, .bool xa] 37)).alloc (.cells #[.slice pb nb cb, .bool xb] 37)):=(X04 w _).alloc (by simp) _;have x0:=X0l (X0g w #[.slice pa na ca, .bool xa] 37) (.cells #[.slice pb nb cb, .bool xb] 37);have x1:=X0g (w.alloc (.cells #[.slice pa na ca, .bool xa] 37)) #[.slice pb nb cb, .bool xb] 37
 rw[show (w.alloc (.cells #[.slice pa na ca, .bool xa] 37)).heap.size=w.heap.size+1 by simp] at x1;have ra:=Xzd L (X1e hB);have rb:=Xzd M (X1e hB);obtain⟨W,hW⟩: ∃W,((w.alloc (.cells #[.slice pa na ca, .bool xa] 37)).alloc (.cells #[.slice pb nb cb, .bool xb] 37))=W:=⟨_,rfl⟩;rw[hW] at hB x0 x1 ra rb;have a1:w.heap.size+1<W.heap.size:=X1h x1;replace hB:=hid hB;replace x0:=hid x0;replace x1:=hid x1;replace ra:=hid ra;replace rb:=hid rb;replace i:=hid i;replace l:=hid l;replace C:=hid C;replace hW:=hid hW;clear hE L M ha hb;go_enter Tryz.func45,Tryz.ntmps45;go_upto_region 1 with(fail);rw[hW.out]
 have c0:=X00 x0.out 0 (.slice pa na ca) rfl;have c1:=X00 x0.out 1 (.bool xa) rfl;have d0:=X00 x1.out 0 (.slice pb nb cb) rfl;have d1:=X00 x1.out 1 (.bool xb) rfl;by_cases hl:na=nb
 ·subst hl;by_cases hx:xa=xb
  ·subst hx;go_wp2_with fail;clear c0 c1 d0 d1;go_loopg [5] na (fun g vi wr=>∃k:Nat,k≤na∧vi= .int .i64 k∧g=na - k∧(∀j (h:j<la.length) (h2:j<lb.length),j<k→la[j]=lb[j])∧Below W.heap.size W wr)
   case atStart=>exact⟨0,Nat.zero_le _,rfl,rfl,fun j h h2 hj=>by omega,Below.refl _ _⟩
   case round=>
    obtain⟨k,hk,rfl,rfl,t,c⟩:=hrel;have c0:=X00 (X02 x0.out c) 0 (.slice pa na ca) rfl;have d0:=X00 (X02 x1.out c) 0 (.slice pb na cb) rfl;by_cases hlt:k<na
    ·have H:(k:Int)<(na:Int):=by omega
     have I:k<lb.length:=by rw[q.out];exact hlt
     have z:k<la.length:=by rw[m.out];exact hlt
     obtain⟨ba,oa,rfl,S,_,F⟩:=XmG ra.out (by rw[m.out];omega);obtain⟨bb,ob,rfl,T,_,G⟩:=XmG rb.out (by rw[q.out];omega);obtain⟨ua,N,r⟩:=F k z;obtain⟨ub,O,s⟩:=G k I;have ea:wr.cell? ⟨ba,oa+k,none⟩=some ua:=(c.cell (p:=⟨ba,oa+k,none⟩) S).trans N;have eb:wr.cell? ⟨bb,ob+k,none⟩=some ub:=(c.cell (p:=⟨bb,ob+k,none⟩) T).trans O;have U:=C.out la[k] (List.getElem_mem z);have d:la[k]=lb[k]→∀j (h:j<la.length) (h2:j<lb.length),j<k+1→la[j]=lb[j]:=fun h0 j h h2 hj=>by
      by_cases e:j=k
      ·subst e;exact h0
      ·exact t j h h2 (by omega)
     have v:la[k]≠lb[k]→la≠lb:=fun h0 h1=>h0 (by subst h1;rfl);obtain⟨x,P⟩: ∃x,la[k]=x:=⟨_,rfl⟩;obtain⟨y,R⟩: ∃y,lb[k]=y:=⟨_,rfl⟩;rw[P] at r U d v;rw[R] at s d v;obtain⟨px,cx,rfl⟩:=X0b r.1;obtain⟨py,cy,rfl⟩:=X0b s.1;have rx:=hid (X03 r.1 c);have ry:=hid (X03 s.1 c);have o:=fun W2 (h1:RI W2 (.slice px x.length cx) x) (h2:RI W2 (.slice py y.length cy) y)=>X36 _ _ x y W2 (by omega) h1 h2;obtain⟨D,hD⟩: ∃D,sameB x y=D:=⟨_,rfl⟩;rw[hD] at o;have B:D=true→x=y:=fun h=>by rw[h] at hD;exact of_decide_eq_true hD
     have A:D=false→x≠y:=fun h=>by rw[h] at hD;exact of_decide_eq_false hD
     replace o:=hid o;replace d:=hid d;replace v:=hid v;replace B:=hid B;replace A:=hid A;replace t:=hid t;replace c:=hid c;clear F G r s N O P R hD;go_upto_region 6 with(fail);have H4:=hid (show _∧_∧_∧_ from⟨c0,d0,ea,eb⟩)
     go_region_held3 (fun w'=>w'.cell? ⟨w.heap.size,0,none⟩=some (.slice (some ⟨ba,oa,none⟩) na ca)∧w'.cell? ⟨w.heap.size+1,0,none⟩=some (.slice (some ⟨bb,ob,none⟩) na cb)∧w'.cell? ⟨ba,oa+k,none⟩=some (.slice px x.length cx)∧w'.cell? ⟨bb,ob+k,none⟩=some (.slice py y.length cy))
      (first | with_reducible exact⟨c0,d0,ea,eb⟩ | go_keep)
      (first | (go_at_call 28;refine(o.out wr.drew rx.out ry.out).mono ?_;rintro e w2 ⟨rfl,nd,rfl⟩))
     all_goals
      have u:=hid (X05 c.out (X0U wr (1+nd)));rcases D with _ | _
      ·have f:=hid (i.out (.inl (v.out (A.out rfl))));go_wp2_with fail;go_ret;exact⟨X0p f.out.symm,X05 hB.out u.out⟩
      ·have a0:=hid (d.out (B.out rfl));clear c0 d0 ea eb;go_wp2_with fail;go_roundg (na - (k+1))
       case measure=>omega
       case rel=>exact⟨k+1,by omega,by go_num,rfl,a0.out,u.out⟩
    ·obtain rfl:k=na:=by omega
     have H:decide ((k:Int)<(k:Int))=false:=by simp
     have f:=hid (l.out (List.ext_getElem (m.out.trans q.out.symm) fun j h h2=>t j h h2 (by rw[←m.out];exact h)) (by trivial));replace t:=hid t;replace c:=hid (X05 hB.out c);go_wp2_with fail;go_ret;exact⟨X0p f.out.symm,c.out⟩
  ·have f:=hid (i.out (.inr hx));rcases xa with _ | _ <;> rcases xb with _ | _;all_goals first | exact absurd rfl hx | skip
   all_goals
    go_wp2_with fail;go_ret;exact⟨X0p f.out.symm,hB.out⟩
 ·have n1:((na:Int) != (nb:Int))=true:=by simp;omega
  have a2:(na != nb)=true:=by simpa using hl
  have f:=hid (i.out (.inl fun h=>hl (by rw[←m.out,←q.out,h])));go_wp2_with fail;go_ret;exact⟨X0p f.out.symm,hB.out⟩
theorem XeR{B B' n:Nat}{v:Value}{us:List Value}{T:TypeId}{w:World}(h:w.ownsRow B' T 1 v n us)(hB:B≤B'):w.ownsRow B T 1 v n us:=by
 refine⟨h.1,?_⟩;rcases h.2 with h2 | ⟨g,cap,a,hv,hg,r⟩
 ·exact .inl h2
 ·exact .inr ⟨g,cap,a,hv,Nat.le_trans hB hg,r⟩
theorem Xz7(b:List Int):Stg.okB b=(decide (1≤b.length) && decide (b.length≤8)):=rfl
theorem Xi0(p:Option Addr)(cap:Nat)(b:List Int)(w:World):Calls Tryz.prog 55 #[.slice p b.length cap] w fun e w'=>e= .returned (.bool (Stg.okB b))∧w'=w:=by
 rw[Xz7];obtain⟨m,hm⟩: ∃m,b.length=m:=⟨_,rfl⟩;rw[hm];clear hm;by_cases h1:1≤m
 ·have n1:(0:Int)<(m:Int):=by omega
  by_cases h2:m≤8
  ·have n2:(m:Int)≤8:=by omega
   rw[decide_eq_true h1,decide_eq_true h2];go_enter Tryz.func55,Tryz.ntmps55;go_wp2_with fail;go_ret;exact⟨rfl,rfl⟩
  ·have n2: ¬(m:Int)≤8:=by omega
   rw[decide_eq_true h1,decide_eq_false h2];go_enter Tryz.func55,Tryz.ntmps55;go_wp2_with fail;go_ret;exact⟨rfl,rfl⟩
 ·have n1: ¬(0:Int)<(m:Int):=by omega
  rw[decide_eq_false h1];go_enter Tryz.func55,Tryz.ntmps55;go_wp2_with fail;go_ret;exact⟨rfl,rfl⟩
def OwnRo(B:Nat)(J:Nat→Prop)(v:Value)(ls:List (List Int))(us:List Value)(w:World):Prop:=
 w.ownsRow B 24 1 v ls.length us∧us.length=ls.length∧∀ (i:Nat) (u:Value) (l:List Int),us[i]? =some u→ls[i]? =some l→RIo J w u l
theorem XvV(J:Nat→Prop)(v:Value)(ls:List (List Int))(w:World)(hl:ls.length≤100000)(hv:RRo J w v ls):Calls Tryz.prog 82 #[v] w fun e w'=>∃v' us,e= .returned v'∧OwnRo w.heap.size (Up J w) v' ls us w'∧Below w.heap.size w w':=by
 obtain⟨i0,hi,x,y,z⟩:=info_parts Xw4;have qn: ∀ (w:World) (a:Option Addr) (n c n' c':Nat),(binOp .eql 35 (.slice a n c) (.slice none n' c')).run Tryz.prog w= .ok (.bool a.isNone) w:=fun w a n c n' c'=>Lib.run_eql_slice_nil w _ 24 a n c n' c' (by kernel_rfl);replace hv:=XBI hv;have q:=hv;rcases hv with⟨rfl,rfl⟩ | ⟨a,cap,rfl,A,hc⟩
 ·go_enter Tryz.func82,Tryz.ntmps82;go_wp2_with fail;go_ret;exact⟨_,[],rfl,⟨World.ownsRow_nil _ _ _ _,rfl,fun i u l h=>by simp at h⟩,Below.refl _ _⟩
 ·have o:=X04 w (.cells #[] 24);have p:=Xzd q (X1e (J:=Up J w) o);obtain⟨us,j,m,k,d⟩:=Xw5 p;have f:=hid (Xrl w.heap.size w 24 [] (Nat.le_refl _) (Nat.zero_le _));have b1:=hid o;have s1:=hid m;have r:=hid k;have s:=hid (show 0+us.length≤maxLen by unfold maxLen;omega);have t:=hid (show (0+us.length) *24≤140737488355328 by omega);replace d:=hid d;replace j:=hid j;clear hc q m k p o;go_enter Tryz.func82,Tryz.ntmps82
  go_wp2_with (at_builtin;refine X0c rfl _ _ 35 rfl w.heap.size 24 i0 (.slice none 0 0) 24 Tryz.underlying35 hi x y z rfl _ _ _ rfl f.out _ _ rfl s1.out r.out s.out t.out b1.out.size ?_;intro v5 w5 g b;have o5:=hid g;have b5:=hid (X0k b1.out b b1.out.size f.out (Nat.le_refl _));have O5:=hid (X55 (J:=Up J w) b (XbE f.out (Nat.le_refl _)));clear g b);go_ret;refine⟨_,us,rfl,⟨?_,j.out,fun i u l h1 h2=>X4o (d.out i u l h1 h2) O5.out⟩,b5.out⟩;have:=o5.out;simpa [j.out] using this
theorem XvW(J:Nat→Prop)(v vb:Value)(ls:List (List Int))(b:List Int)(w:World)(hold:Old J w)(hl:ls.length≤100000)(hv:RRo J w v ls)(hvb:RIo J w vb b):Calls Tryz.prog 56 #[v,vb] w fun e w'=>∃v',e= .returned v'∧RRo J w' v' (ls++ [b])∧Below w.heap.size w w':=by
 obtain⟨i0,hi,I,K,L⟩:=info_parts Xw4;obtain⟨pb,cb,rfl⟩:=X0b hvb.1;obtain⟨p,cap,rfl⟩:=XmH hv;have s:=X04 w (.cells #[.slice pb b.length cb] 24);obtain⟨us,z,E,H,A⟩:=Xw5 (Xzd hv (X1e (J:=J) s));have F:=X4o hvb (X1e (J:=J) s);obtain⟨_,G,t⟩:=Xze hv;have a: ∀b',p=some b'→∀j u,us[j]? =some u→(w.alloc (.cells #[.slice pb b.length cb] 24)).cell? (b'.add j)=some u:=by
  intro b' e j u hu;subst e;rcases E with⟨e,_⟩ | ⟨ad,c,e,hc⟩
  ·cases e
  ·simp at e;obtain⟨rfl,_⟩:=e;exact hc j u hu
 have d: ∀ (j:Nat) u,([.slice pb b.length cb]:List Value)[j]? =some u→(w.alloc (.cells #[.slice pb b.length cb] 24)).cell? ((⟨w.heap.size,0,none⟩:Addr).add j)=some u:=by
  intro j u hu
  match j with
  |
   0=>
   obtain rfl:=Option.some.inj hu;simp [Addr.add]
  | j+1=>simp at hu
 have f: ∀v5 w5,w5.ownsRow (w.alloc (.cells #[.slice pb b.length cb] 24)).heap.size 24 1 v5 (ls.length+1) (us++ [.slice pb b.length cb])→(w.alloc (.cells #[.slice pb b.length cb] 24)).grownBy w5 none→RRo J w5 v5 (ls++ [b])∧Below w.heap.size w w5:=by
  intro v5 w5 h5 g5;have O5:=X55 (J:=J) g5 (fun j e=>by cases e);refine⟨Xza (B:=w.heap.size) (us:=us++ [.slice pb b.length cb]) ?_ (by simp [z]) (fun j hj hJ=>by have:=hold j hJ;omega) (Xrm z (fun i u l h1 h2=>X4o (A i u l h1 h2) O5) (X4o F O5)),s.grown g5 s.size (fun k hk=>by cases hk)⟩;have:=XeR h5 (show w.heap.size≤_ from s.size);simpa using this
 obtain⟨m,hm⟩: ∃m,b.length=m:=⟨_,rfl⟩;obtain⟨n,hn⟩: ∃n,ls.length=n:=⟨_,rfl⟩;rw[hm] at a d f ⊢;rw[hn] at f z G hl ⊢;have r:us.length=n *1:=by omega
 have g:n<n+1:=by omega
 have C:n+1≤maxLen:=by unfold maxLen;omega
 have D:(n+1) *24≤140737488355328:=by omega
 have o: ∀u∈([.slice pb m cb]:List Value),u.oneCell'=true:=fun u hu=>by rw[List.mem_singleton.1 hu];rfl
 have M: ¬(cap:Int)<(n:Int):=by omega
 have N: ¬(n:Int)<0:=by omega
 have O:(0:Int)≤(n:Int):=by omega
 have q:p=none→n=0∧n=0:=fun e=>by have:=t e;omega
 clear hv hvb F A H E s hold hn hm;replace a:=hid a;replace d:=hid d;replace o:=hid o;replace f:=hid f;replace r:=hid r;replace z:=hid z;replace g:=hid g;replace C:=hid C;replace D:=hid D;rcases p with _ | p
 ·obtain⟨rfl,_⟩:=q rfl;obtain rfl:=t rfl;go_enter Tryz.func56,Tryz.ntmps56;go_wp2_with (at_builtin;refine wpList_append_grows _ rfl _ _ 35 rfl 24 i0 (.slice none 0 0) 1 24 Tryz.underlying35 hi I K L rfl (by decide) none 0 0 us rfl (fun _=>⟨rfl,rfl⟩) r.out a.out ⟨w.heap.size,0,none⟩ 1 1 [.slice pb m cb] rfl rfl d.out o.out g.out C.out D.out ?_;intro v5 w5 y x;have e5:=hid (f.out v5 w5 y x);clear y x);go_ret;exact⟨_,rfl,e5.out⟩
 ·replace q:=hid q;go_enter Tryz.func56,Tryz.ntmps56;go_wp2_with (at_builtin;refine wpList_append_grows _ rfl _ _ 35 rfl 24 i0 (.slice none 0 0) 1 24 Tryz.underlying35 hi I K L rfl (by decide) (some p) n n us rfl (fun h=>by cases h) r.out a.out ⟨w.heap.size,0,none⟩ 1 1 [.slice pb m cb] rfl rfl d.out o.out g.out C.out D.out ?_;intro v5 w5 y x;have e5:=hid (f.out v5 w5 y x);clear y x);go_ret;exact⟨_,rfl,e5.out⟩
theorem Xyu(J:Nat→Prop)(v:Value)(c:Ch)(w:World)(hf:c.Few)(hv:RCh J w v c):Calls Tryz.prog 30 #[v] w fun e w'=>e= .returned (.bool (Stg.saneC c))∧Below w.heap.size w w':=by
 obtain⟨p,cap,rfl,hr⟩:=X0m hv;have f:=@Xrh c;have a:=@Xod c;obtain⟨hn,t⟩:=hf;obtain⟨E,hE⟩: ∃E,Stg.saneC c=E:=⟨_,rfl⟩;rw[hE] at f a ⊢;obtain⟨L,cl⟩:=c;dsimp only at *
 have s:=Xzd hr (X1e (X04 w (.cells #[.slice p L.length cap, .bool cl] 49)));have y:=X0g w #[.slice p L.length cap, .bool cl] 49;have l:=X00 y 0 _ rfl;have o:=hid (X04 w (.cells #[.slice p L.length cap, .bool cl] 49));obtain⟨W,hW⟩: ∃W,w.alloc (.cells #[.slice p L.length cap, .bool cl] 49)=W:=⟨_,rfl⟩;replace s:=hid s;replace f:=hid f;replace a:=hid a;replace t:=hid t;clear hE hr hv y;replace l:=hid l;rw[hW] at s l o;replace hW:=hid hW;go_enter Tryz.func30,Tryz.ntmps30;go_wp2_with fail;rw[hW.out];have F:=l.out
 go_loopg [4,8] L.length (fun g vb vi wr=>∃k:Nat,k≤L.length∧vi= .int .i64 k∧g=L.length - k∧wr=W∧∀j (h:j<L.length),j<k→Stg.okB L[j]=true)
 case atStart=>exact⟨0,Nat.zero_le _,rfl,rfl,rfl,fun j h hj=>by omega⟩
 case round=>
  obtain⟨k,hk,rfl,rfl,rfl,n⟩:=hrel;replace l:=l.out;by_cases hlt:k<L.length
  ·have z:(k:Int)<(L.length:Int):=by omega
   obtain⟨b,off,rfl,hb,hJ,r⟩:=XmG s.out (by omega);obtain⟨u,hu,A⟩:=r k hlt;obtain⟨pk,ck,rfl⟩:=X0b A.1;have i:=hid (Xi0 pk ck L[k] wr);have q:=f.out k hlt;have d:Stg.okB L[k]=true→∀j (h:j<L.length),j<k+1→Stg.okB L[j]=true:=fun h0 j h hj=>by
    by_cases e:j=k
    ·subst e;exact h0
    ·exact n j h (by omega)
   obtain⟨O,hO⟩: ∃O,Stg.okB L[k]=O:=⟨_,rfl⟩;rw[hO] at i q d;obtain⟨m,hm⟩: ∃m,L[k].length=m:=⟨_,rfl⟩;rw[hm] at hu i;replace d:=hid d;replace n:=hid n;replace q:=hid q;clear r A hm hO;go_wp2_with fail;refine i.out.mono ?_;rintro e w1 ⟨rfl,rfl⟩;clear i;rcases O with _ | _
   ·have B:=hid (q.out rfl);clear q;go_wp2_with fail;go_ret;exact⟨X0p B.out.symm,o.out⟩
   ·go_wp2_with fail;go_roundg (L.length - (k+1))
    case measure=>omega
    case rel=>exact⟨k+1,by omega,by go_num,rfl,rfl,d.out trivial⟩
  ·obtain rfl:k=L.length:=by omega
   have z:decide ((L.length:Int)<(L.length:Int))=false:=by simp
   have x:=hid (a.out fun k h _=>n k h h);replace n:=hid n;obtain⟨D,hD⟩: ∃D,decide (L.length≤2)=D:=⟨_,rfl⟩;have C:decide ((L.length:Int)≤2)=D:=by rw[←hD];exact decide_eq_decide.2 (by omega)
   rw[hD] at x;go_wp2_with fail;go_ret;exact⟨X0p x.out.symm,o.out⟩
theorem Xcw(J:Nat→Prop)(v:Value)(c:Ch)(w:World)(hf:c.Few)(hv:RCh J w v c):Calls Tryz.prog 54 #[v] w (ToldC J (Stg.asC c) w):=by
 have hs:=fun W (h:RCh J W v c)=>Xyu J v c W hf h;obtain⟨p,cap,rfl,hr⟩:=X0m hv;obtain⟨S,hS⟩: ∃S,Stg.saneC c=S:=⟨_,rfl⟩;have hA:Stg.asC c=if S=true then c else ⟨[],false⟩:=by unfold Stg.asC;rw[hS]
 rw[hS] at hs;have j:=X0g w #[.slice p c.L.length cap, .bool c.closed] 49;have hb:=X0l j (.cells #[.slice none 0 0, .bool false] 49);have d:=X0g (w.alloc (.cells #[.slice p c.L.length cap, .bool c.closed] 49)) #[.slice none 0 0, .bool false] 49;rw[show (w.alloc (.cells #[.slice p c.L.length cap, .bool c.closed] 49)).heap.size=w.heap.size+1 by simp] at d;have b:Below w.heap.size w ((w.alloc (.cells #[.slice p c.L.length cap, .bool c.closed] 49)).alloc (.cells #[.slice none 0 0, .bool false] 49)):=(X04 w _).alloc (by simp) _;have f:=hid (hs _ (X01 hv b));have l:=hid (fun W h=>X01 (w1:=W) hv h)
 have c0:=X00 hb 0 (.slice p c.L.length cap) rfl;have c1:=X00 hb 1 (.bool c.closed) rfl;replace b:=hid b;replace d:=hid d;replace hb:=hid hb;replace hA:=hid hA;replace hv:=hid hv;clear j hS hs hr;obtain⟨cl,k⟩: ∃cl,c.closed=cl:=⟨_,rfl⟩;obtain⟨n,hn⟩: ∃n,c.L.length=n:=⟨_,rfl⟩;rw[k,hn] at hb d b f l c0 c1 ⊢;clear k hn hv;go_enter Tryz.func54,Tryz.ntmps54;go_wp2_with fail;refine f.out.mono ?_;rintro e w1 ⟨rfl,g⟩;have i:=X02 hb.out g;have a:=X02 d.out g;clear c0 c1;have c0:=X00 i 0 (.slice p n cap) rfl;have c1:=X00 i 1 (.bool cl) rfl;have f0:=X06 a 0;have f1:=X06 a 1
 have d0:=X00 a 0 (.slice none 0 0) rfl;have d1:=X00 a 1 (.bool false) rfl;replace g:=hid (X05 b.out g);replace a:=hid a;clear hb b d i f;rcases S with _ | _
 ·go_wp2_with fail;refine bodyPost_ret (v:= .agg #[.slice none 0 0, .bool false]) ?_ rfl ?_
  ·have q:=X0I (X0I a.out 0 (.slice none 0 0)) 1 (.bool false);have q0:=X00 q 0 (.slice none 0 0) rfl;have q1:=X00 q 1 (.bool false) rfl;simp [results,Tryz.results54,go_sem,q0,q1]
  ·refine⟨_,rfl,?_,(g.out.setCell (p:=⟨_,0,none⟩) (Nat.le_succ _) _).setCell (p:=⟨_,1,none⟩) (Nat.le_succ _) _⟩;rw[hA.out];exact X5v _ _
 ·go_wp2_with fail;refine bodyPost_ret (v:= .agg #[.slice p n cap, .bool cl]) ?_ rfl ?_
  ·have q:=X0I (X0I a.out 0 (.slice p n cap)) 1 (.bool cl);have q0:=X00 q 0 (.slice p n cap) rfl;have q1:=X00 q 1 (.bool cl) rfl;simp [results,Tryz.results54,go_sem,q0,q1]
  ·have hB:=(g.out.setCell (p:=⟨_,0,none⟩) (Nat.le_succ _) (.slice p n cap)).setCell (p:=⟨_,1,none⟩) (Nat.le_succ _) (.bool cl);refine⟨_,rfl,?_,hB⟩;rw[hA.out];exact l.out _ hB
theorem Xi1{B B' n:Nat}{v vo:Value}{l:List Int}{us:List Value}{w:World}(h:OwnI B v l w)(ho:w.ownsRow B' 24 1 vo n us):v.ownBlock=none∨v.ownBlock≠vo.ownBlock:=by
 rcases h.2 with⟨rfl,_⟩ | ⟨g,cap,c,rfl,_,hg,_⟩
 ·exact .inl rfl
 ·refine .inr fun e=>?_;rcases ho.2 with⟨rfl,_⟩ | ⟨g',cap',b,rfl,_,a,_⟩
  ·cases e
  ·cases e;rw[hg] at a;injection a with a;injection a with _ a;exact absurd a (by decide)
theorem X4n{w:World}{k:Nat}{cs:Array Value}{T:TypeId}(h:Blk w k cs T)(a:Addr)(u:Value)(hne:k≠a.block):Blk (w.setCell a u) k cs T:=by
 unfold Blk at *
 rw[heap_setCell_other _ _ _ _ hne];exact h
theorem Xo8{B n:Nat}{v:Value}{us:List Value}{T:TypeId}{w:World}(h:w.ownsRow B T 1 v n us): ∃p cap,v= .slice p n cap:=by
 rcases h.2 with⟨rfl,rfl⟩ | ⟨g,cap,a,rfl,_⟩
 ·exact⟨none,0,rfl⟩
 ·exact⟨_,_,rfl⟩
theorem Xgi{B n cap k:Nat}{p:Option Addr}{us:List Value}{T:TypeId}{w:World}(h:w.ownsRow B T 1 (.slice p n cap) n us)(hk:k<n): ∃g,p=some ⟨g,0,none⟩∧B≤g∧g<w.heap.size∧∃h:k<us.length,w.cell? ⟨g,k,none⟩=some us[k]∧w.frozen? ⟨g,k,none⟩=false:=by
 have hc:=fun g hg=>World.ownsRow.cells (g:=g) h hg;have d:=World.ownsRow.lt h;have hn:=h.1;rcases h.2 with⟨_,hl⟩ | ⟨g,cap',c,e,hB,hg,f,_⟩
 ·omega
 ·cases e;have b:k<us.length:=by omega
  have h3:=hc g rfl k _ (List.getElem?_eq_getElem b);have a:(⟨g,0,none⟩:Addr).add k=⟨g,k,none⟩:=by unfold Addr.add;split <;> simp_all
  rw[a] at h3;exact⟨g,rfl,hB,(d g rfl).2,b,by simpa using h3,X06 (show Blk w g c T from hg) k⟩
theorem Xrd{B n cap k g:Nat}{us:List Value}{T:TypeId}{w:World}(h:w.ownsRow B T 1 (.slice (some ⟨g,0,none⟩) n cap) n us)(hk:k<n)(u:Value):(w.setCell ⟨g,k,none⟩ u).ownsRow B T 1 (.slice (some ⟨g,0,none⟩) n cap) n (us.set k u):=by
 refine⟨by simpa using h.1,?_⟩;rcases h.2 with⟨e,_⟩ | ⟨g',cap',b,e,hB,hg,a,c,d,ht⟩
 ·cases e
 ·cases e;refine .inr ⟨g,cap,b.setIfInBounds k u,rfl,hB,X0I (show Blk w g b T from hg) k u,a,c,by simpa using d,?_⟩;rw[←ht,Array.toList_setIfInBounds,List.take_set]
def XeS(B n:Nat)(ls:List (List Int))(v:Value)(k:Nat)(w w1:World):Prop:=
 ∃us:List Value,w1.ownsRow B 24 1 v n us∧(∀ (i:Nat) (u:Value) (l:List Int),us[i]? =some u→ls[i]? =some l→i<k→OwnI B u l w1)∧(∀ (i:Nat) (u:Value) (l:List Int),us[i]? =some u→ls[i]? =some l→k≤i→RIo (Up (fun _=>False) w) w1 u l)∧Below w.heap.size w w1
theorem XvX{B n k cap:Nat}{ls:List (List Int)}{p:Option Addr}{w w1:World}(h:XeS B n ls (.slice p n cap) k w w1)(hn:n=ls.length)(hk:k<ls.length):
 ∃g pk ck,p=some ⟨g,0,none⟩∧B≤g∧w1.cell? ⟨g,k,none⟩=some (.slice pk ls[k].length ck)∧RI w1 (.slice pk ls[k].length ck) ls[k]:=by
 obtain⟨us,h1,h2,h3,h4⟩:=h;obtain⟨g,rfl,hB,_,a,hc,_⟩:=Xgi h1 (by omega:k<n);have hr:=(h3 k _ _ (List.getElem?_eq_getElem a) (List.getElem?_eq_getElem hk) (Nat.le_refl _)).1;obtain⟨pk,ck,e⟩:=X0b hr;rw[e] at hc hr;exact⟨g,pk,ck,rfl,hB,hc,hr⟩
theorem Xo9{B n k cap g:Nat}{ls:List (List Int)}{w w1 w2:World}(hw:w.heap.size≤B)(h:XeS B n ls (.slice (some ⟨g,0,none⟩) n cap) k w w1)(hn:n=ls.length)(hk:k<ls.length)(hb:Below w1.heap.size w1 w2){u:Value}(hu:OwnI w1.heap.size u ls[k] w2):
 (∃u0,w2.cell? ⟨g,k,none⟩=some u0)∧w2.frozen? ⟨g,k,none⟩=false∧XeS B n ls (.slice (some ⟨g,0,none⟩) n cap) (k+1) w (w2.setCell ⟨g,k,none⟩ u):=by
 obtain⟨us,h1,h2,h3,h4⟩:=h;obtain⟨g',e,hB,d,c,_,_⟩:=Xgi h1 (by omega:k<n);cases e;have r2:=XkO h1 hb;obtain⟨_,e,_,_,_,hc,hz⟩:=Xgi r2 (by omega:k<n);cases e;have a:B≤w1.heap.size:=by omega
 refine⟨⟨_,hc⟩,hz,us.set k u,Xrd r2 (by omega) u,fun i x l hx hl b=>?_,fun i x l hx hl b=>?_,(h4.trans (hb.mono h4.size)).setCell (p:=⟨g,k,none⟩) (Nat.le_trans hw hB) u⟩
 ·by_cases e:i=k
  ·subst e;rw[List.getElem?_set_self c] at hx;rw[List.getElem?_eq_getElem hk] at hl;cases hx;cases hl;exact X1d (X0w hu a) _ _ (Xi1 hu r2)
  ·rw[List.getElem?_set_ne (Ne.symm e)] at hx;have:=X0x (h2 i x l hx hl (by omega)) hb;exact X1d this _ _ (Xi1 this r2)
 ·rw[List.getElem?_set_ne (by omega)] at hx;exact X4o (X4o (h3 i x l hx hl (by omega)) (X1e hb)) (X1T _ _ _ (.inr (Nat.le_trans hw hB)))
theorem Xoa{B n:Nat}{ls:List (List Int)}{v:Value}{w w1:World}(h:XeS B n ls v n w w1)(hn:n=ls.length)(hw:w.heap.size≤B):RRo (fun j=>j<B) w1 v ls∧Below w.heap.size w w1:=by
 obtain⟨us,h1,h2,h3,h4⟩:=h;subst hn;exact⟨Xza h1 (by simpa using h1.1) (fun j h=>by omega) (fun i u l hu hl=>Xzb (h2 i u l hu hl (List.getElem?_eq_some_iff.1 hl).1) (fun j h=>by omega)),h4⟩
theorem Xgj(v:Value)(c:Ch)(w:World)(hf:c.Few)(hv:RCh (fun _=>False) w v c):Calls Tryz.prog 53 #[v] w (ToldC (fun j=>j<w.heap.size) c w):=by
 obtain⟨p,cap,rfl,hr⟩:=X0m hv;obtain⟨hn,z⟩:=hf;obtain⟨L,cl⟩:=c;dsimp only at *
 have M:=X0g w #[.slice p L.length cap, .bool cl] 49;have hb:=X0l M (.cells #[.slice none 0 0, .bool false] 49);have d:=X0g (w.alloc (.cells #[.slice p L.length cap, .bool cl] 49)) #[.slice none 0 0, .bool false] 49;rw[show (w.alloc (.cells #[.slice p L.length cap, .bool cl] 49)).heap.size=w.heap.size+1 by simp] at d;have b:Below w.heap.size w ((w.alloc (.cells #[.slice p L.length cap, .bool cl] 49)).alloc (.cells #[.slice none 0 0, .bool false] 49)):=(X04 w _).alloc (by simp) _;have K:=Xzd (XBI hr) (X1e (J:=Up (fun _=>False) w) b)
 have C:((w.alloc (.cells #[.slice p L.length cap, .bool cl] 49)).alloc (.cells #[.slice none 0 0, .bool false] 49)).heap.size=w.heap.size+2:=by simp
 obtain⟨W,hW⟩: ∃W,(w.alloc (.cells #[.slice p L.length cap, .bool cl] 49)).alloc (.cells #[.slice none 0 0, .bool false] 49)=W:=⟨_,rfl⟩;rw[hW] at hb d b K C;have f:=hid (XvV (Up (fun _=>False) w) _ L W (by omega) K);have c0:=X00 hb 0 (.slice p L.length cap) rfl;replace z:=hid z;replace hb:=hid hb;replace d:=hid d;replace b:=hid b;replace hW:=hid hW;replace C:=hid C;clear M hv hr K;obtain⟨n,m⟩: ∃n,L.length=n:=⟨_,rfl⟩;rw[m] at c0 f hb hn hW;replace m:=hid m;go_enter Tryz.func53,Tryz.ntmps53;go_upto_region 1 with(fail);rw[m.out,hW.out];go_wp2_with fail;refine f.out.mono ?_
 rintro e w1 ⟨v1,us,rfl,⟨h1,T,D⟩,y⟩;rw[m.out] at h1;obtain⟨p1,a,rfl⟩:=Xo8 h1;have E:=X02 hb.out y;have G:=X02 d.out y;have I:=X05 b.out y;have t:XeS (w.heap.size+2) n L (.slice p1 n a) 0 w w1:=by
  refine⟨us,XeR h1 (Nat.le_of_eq C.out.symm),fun i u l _ _ h=>by omega,fun i u l hu hl _=>X49 (D i u l hu hl) (fun j _ hj=> .inl hj),I⟩
 replace E:=hid E;replace G:=hid G;replace t:=hid t;have H:=E.out;have V:w.heap.size+2≤w1.heap.size:=by have:=y.size;rw[C.out] at this;exact this
 clear h1 D y f hb d b T;go_wp2_with fail;go_loopg [4,5,11] n (fun g v4 v5 vi wr=>∃k:Nat,k≤n∧vi= .int .i64 k∧g=n - k∧XeS (w.heap.size+2) n L (.slice p1 n a) k w wr∧Blk wr w.heap.size #[.slice p n cap, .bool cl] 49∧Blk wr (w.heap.size+1) #[.slice none 0 0, .bool false] 49)
 case atStart=>exact⟨0,Nat.zero_le _,rfl,rfl,t.out,E.out,G.out⟩
 case round=>
  obtain⟨k,hk,rfl,rfl,hm,hx,hr⟩:=hrel;clear H t E G;by_cases hlt:k<n
  ·have N:(k:Int)<(n:Int):=by omega
   have A:k<L.length:=by rw[m.out];exact hlt
   obtain⟨g,pk,ck,rfl,hg,hc,P⟩:=XvX hm m.out.symm A;have R:=z.out L[k] (List.getElem_mem A);have r:=hid (Xqh _ _ wr (by omega) P);obtain⟨l,hl⟩: ∃l,L[k]=l:=⟨_,rfl⟩;rw[hl] at hc r;replace hl:=hid hl;replace hm:=hid hm;replace hx:=hid hx;replace hr:=hid hr;clear P R;go_wp2_with fail;refine r.out.mono ?_;rintro e w2 ⟨v2,rfl,B,F⟩;obtain⟨p2,c2,rfl⟩:=X0b (X0a B);obtain⟨m2,x⟩: ∃m2,l.length=m2:=⟨_,rfl⟩;rw[x] at B ⊢;clear x;rw[←hl.out] at B;obtain⟨⟨u0,a0⟩,a1,x⟩:=Xo9 (Nat.le_add_right _ 2) hm.out m.out.symm A F B;have H:=X02 hx.out F;have O:=X02 hr.out F;replace x:=hid x
   have U:=hid (show Blk (w2.setCell ⟨g,k,none⟩ (.slice p2 m2 c2)) w.heap.size _ _ from X4n H ⟨g,k,none⟩ (.slice p2 m2 c2) (by show w.heap.size≠g;omega));have S:=hid (show Blk (w2.setCell ⟨g,k,none⟩ (.slice p2 m2 c2)) (w.heap.size+1) _ _ from X4n O ⟨g,k,none⟩ (.slice p2 m2 c2) (by show w.heap.size+1≠g;omega));clear H O hx hr hm r B F hc;go_wp2_with fail;go_roundg (n - (k+1))
   case measure=>omega
   case rel=>exact⟨k+1,by omega,by go_num,rfl,x.out,U.out,S.out⟩
  ·obtain rfl:k=n:=by omega
   have N:decide ((k:Int)<(k:Int))=false:=by simp
   obtain⟨s,o⟩:=Xoa hm m.out.symm (Nat.le_add_right _ 2);have d1:=X00 hx 1 (.bool cl) rfl;have e0:=X00 hr 0 (.slice none 0 0) rfl;have e1:=X00 hr 1 (.bool false) rfl;have f0:=X06 hr 0;have f1:=X06 hr 1;replace s:=hid s;replace o:=hid o;replace hx:=hid hx;replace hr:=hid hr;clear hm;go_wp2_with fail;have hB:=(o.out.setCell (p:=⟨w.heap.size+1,0,none⟩) (Nat.le_succ _) (.slice p1 k a)).setCell (p:=⟨w.heap.size+1,1,none⟩) (Nat.le_succ _) (.bool cl);refine bodyPost_ret (v:= .agg #[.slice p1 k a, .bool cl]) ?_ rfl ⟨_,rfl,⟨_,rfl,?_⟩,hB⟩
   ·have q:=X0I (X0I hr.out 0 (.slice p1 k a)) 1 (.bool cl);have q0:=X00 q 0 (.slice p1 k a) rfl;have q1:=X00 q 1 (.bool cl) rfl;simp [results,Tryz.results53,go_sem,q0,q1]
   ·have hO:X4l (fun j=>j<w.heap.size+2) wr ((wr.setCell ⟨w.heap.size+1,0,none⟩ (.slice p1 k a)).setCell ⟨w.heap.size+1,1,none⟩ (.bool cl)):=X1m (X1T _ ⟨w.heap.size+1,0,none⟩ _ (Nat.lt_succ_self _)) (X1T _ ⟨w.heap.size+1,1,none⟩ _ (Nat.lt_succ_self _));exact XmI (Xzd s.out hO) (fun j _ hj=>Nat.lt_of_lt_of_le hj (Nat.le_add_right _ 2))
theorem X47{w:World}{k:Nat}{a b:Value}{T:TypeId}(h:Blk w k #[a,b] T)(x y:Value):Blk ((w.setCell ⟨k,0,none⟩ x).setCell ⟨k,1,none⟩ y) k #[x,y] T:=X0I (X0I h 0 x) 1 y
theorem X48{w:World}{k j:Nat}{cs:Array Value}{T:TypeId}(h:Blk w k cs T)(hne:k≠j)(x y:Value):Blk ((w.setCell ⟨j,0,none⟩ x).setCell ⟨j,1,none⟩ y) k cs T:=X4n (X4n h ⟨j,0,none⟩ x hne) ⟨j,1,none⟩ y hne
theorem X7K:SpentC16:=by
 intro J v c w hf hv;unfold Stg.X6T;have hk:=fun W (h:RCh (Up (fun _=>False) w) W v c)=>Xcw (Up (fun _=>False) w) v c W hf h;have r:=X79 (X0Q (K:=fun _=>False) hv (fun j _ h=>h.elim));obtain⟨p,cap,rfl,C⟩:=X0m r;obtain⟨d,hd⟩: ∃d,Stg.asC c=d:=⟨_,rfl⟩;have k:=Stg.X2I c;rw[hd] at hk k ⊢;have y:=X1n k;have l:=(Stg.X11 d).1 k;have g:=X0g w #[.slice p c.L.length cap, .bool c.closed] 49;have a:=X04 w (.cells #[.slice p c.L.length cap, .bool c.closed] 49);have b:=hid (hk _ (X01 r a));obtain⟨cl,u⟩: ∃cl,c.closed=cl:=⟨_,rfl⟩;obtain⟨n,hn⟩: ∃n,c.L.length=n:=⟨_,rfl⟩;rw[u,hn] at a b g ⊢
 have c0:=X00 g 0 (.slice p n cap) rfl;have c1:=X00 g 1 (.bool cl) rfl;replace a:=hid a;replace g:=hid g;clear u hn hv r hk C hd k;obtain⟨L,dc⟩:=d;dsimp only at b l ⊢;obtain⟨E,z⟩:=l;replace z:=hid z;replace y:=hid y;go_enter Tryz.func27,Tryz.ntmps27;go_wp2_with fail;refine b.out.mono ?_;rintro e w1 ⟨v1,rfl,A,m⟩;obtain⟨p1,s,rfl,o⟩:=X0m A;dsimp only at o;have i:=X02 g.out m;have f:=X05 a.out m;clear c0 c1 b a g A m;have f0:=X06 i 0;have f1:=X06 i 1;have c0:=X00 i 0 (.slice p n cap) rfl;have c1:=X00 i 1 (.bool cl) rfl
 have hB:=hid ((f.setCell (p:=⟨w.heap.size,0,none⟩) (Nat.le_refl _) (.slice p1 L.length s)).setCell (p:=⟨w.heap.size,1,none⟩) (Nat.le_refl _) (.bool dc));replace f:=hid f;replace i:=hid i;replace o:=hid o;rcases dc with _ | _
 ·go_wp2_with fail;go_ret;exact⟨rfl,hB.out⟩
 ·rcases L with _ | ⟨x,t⟩
  ·go_wp2_with fail;go_ret;exact⟨rfl,hB.out⟩
  ·have B:((((x::t).length:Nat):Int) == 0)=false:=beq_eq_false_iff_ne.2 (by simp only[List.length_cons];omega);obtain⟨q,hq⟩: ∃q,(x::t).length=q:=⟨_,rfl⟩;rw[hq] at B hB ⊢;have D: ¬((q:Int)=0):=by rw[←hq];simp only[List.length_cons];omega
   clear hq;go_wp2_with fail;go_ret;exact⟨rfl,hB.out⟩
theorem X7L:CloseC16:=by
 intro J v c w hold hf hv;unfold Stg.X1y;have hk:=fun W (h:RCh (Up (fun _=>False) w) W v c)=>Xcw (Up (fun _=>False) w) v c W hf h;have T:=X79 (X0Q (K:=fun _=>False) hv (fun j _ h=>h.elim));obtain⟨p,cap,rfl,a6⟩:=X0m T;obtain⟨d,hd⟩: ∃d,Stg.asC c=d:=⟨_,rfl⟩;have M:=Stg.X2I c;rw[hd] at hk M ⊢;have R:=X1n M;have O:=(Stg.X11 d).1 M;have a1:=X0g w #[.slice p c.L.length cap, .bool c.closed] 49;have r:=X0l a1 (.cells #[.slice none 0 0, .bool false] 49);have f:=X0g (w.alloc (.cells #[.slice p c.L.length cap, .bool c.closed] 49)) #[.slice none 0 0, .bool false] 49
 rw[show (w.alloc (.cells #[.slice p c.L.length cap, .bool c.closed] 49)).heap.size=w.heap.size+1 by simp] at f;have b:Below w.heap.size w ((w.alloc (.cells #[.slice p c.L.length cap, .bool c.closed] 49)).alloc (.cells #[.slice none 0 0, .bool false] 49)):=(X04 w _).alloc (by simp) _;have k:=hid (hk _ (X01 T b));obtain⟨cl,a2⟩: ∃cl,c.closed=cl:=⟨_,rfl⟩;obtain⟨n,hn⟩: ∃n,c.L.length=n:=⟨_,rfl⟩;rw[a2,hn] at b k r f ⊢;have c0:=X00 r 0 (.slice p n cap) rfl;have c1:=X00 r 1 (.bool cl) rfl;replace b:=hid b;replace f:=hid f;replace r:=hid r;clear a2 hn hv T hk a6 hd M a1;obtain⟨L,dc⟩:=d
 dsimp only at k O ⊢;obtain⟨a9,a3⟩:=O;replace a3:=hid a3;replace R:=hid R;go_enter Tryz.func24,Tryz.ntmps24;go_wp2_with fail;refine k.out.mono ?_;rintro e w1 ⟨v1,rfl,a4,F⟩;obtain⟨p1,a8,rfl,S⟩:=X0m a4;dsimp only at S;have z:=X02 r.out F;have A:=X02 f.out F;have g:=X05 b.out F;clear c0 c1 k b r a4 F;clear f;have a0:=hid (Xgj _ ⟨L,dc⟩ w1 R.out ⟨_,rfl,XmI S (fun j _ h=>h.elim)⟩);replace g:=hid g;replace z:=hid z;replace A:=hid A;clear S;go_wp2_with fail;refine a0.out.mono ?_;rintro e w2 ⟨v2,rfl,a5,G⟩;obtain⟨p2,a,rfl,I⟩:=X0m a5;dsimp only at I;have s:=X02 z.out G;have t:=X02 A.out G
 have q:=X05 g.out G;have H:=X1h z.out;have N:=X1h A.out;clear a0 a5 G z A g;have f0:=X06 s 0;have f1:=X06 s 1;have g0:=X06 t 0;have g1:=X06 t 1;have c0:=X00 s 0 (.slice p n cap) rfl;have c1:=X00 s 1 (.bool cl) rfl;have e0:=X00 t 0 (.slice none 0 0) rfl;have e1:=X00 t 1 (.bool false) rfl;go_upto_region 2 with(fail);clear f0 f1 g0 g1 c0 c1 e0 e1;have l:=X47 s (.slice p2 L.length a) (.bool dc);have o:=X48 t (by omega:w.heap.size+1≠w.heap.size) (.slice p2 L.length a) (.bool dc)
 have B:X4l (fun j=>j<w1.heap.size) w2 ((w2.setCell ⟨w.heap.size,0,none⟩ (.slice p2 L.length a)).setCell ⟨w.heap.size,1,none⟩ (.bool dc)):=X1m (X1T _ ⟨w.heap.size,0,none⟩ _ H) (X1T _ ⟨w.heap.size,1,none⟩ _ H);have i:=(q.setCell (p:=⟨w.heap.size,0,none⟩) (Nat.le_refl _) (.slice p2 L.length a)).setCell (p:=⟨w.heap.size,1,none⟩) (Nat.le_refl _) (.bool dc);obtain⟨W3,D⟩: ∃W3,(w2.setCell ⟨w.heap.size,0,none⟩ (.slice p2 L.length a)).setCell ⟨w.heap.size,1,none⟩ (.bool dc)=W3:=⟨_,rfl⟩;rw[D] at l o B i;replace D:=hid D;replace B:=hid B;rw[D.out];have f0:=X06 l 0;have f1:=X06 l 1;have g0:=X06 o 0
 have g1:=X06 o 1;have c0:=X00 l 0 (.slice p2 L.length a) rfl;have c1:=X00 l 1 (.bool dc) rfl;have e0:=X00 o 0 (.slice none 0 0) rfl;have e1:=X00 o 1 (.bool false) rfl;replace s:=hid s;replace t:=hid t;replace q:=hid q;replace l:=hid l;replace o:=hid o;replace i:=hid i;replace I:=hid I;go_upto_region 3 with(fail);clear f0 f1 g0 g1 c0 c1 e0 e1;have m:=X0I l.out 1 (.bool true);have u:=X4n o.out ⟨w.heap.size,1,none⟩ (.bool true) (by show w.heap.size+1≠w.heap.size;omega);have V:=hid (X1T (J:=fun j=>j<w1.heap.size) W3 ⟨w.heap.size,1,none⟩ (.bool true) H)
 have x:=i.out.setCell (p:=⟨w.heap.size,1,none⟩) (Nat.le_refl _) (.bool true);obtain⟨W4,P⟩: ∃W4,W3.setCell ⟨w.heap.size,1,none⟩ (.bool true)=W4:=⟨_,rfl⟩;rw[P] at m u V x ⊢;replace P:=hid P;have f0:=X06 m 0;have f1:=X06 m 1;have g0:=X06 u 0;have g1:=X06 u 1;have c0:=X00 m 0 (.slice p2 L.length a) rfl;have c1:=X00 m 1 (.bool true) rfl;have e0:=X00 u 0 (.slice none 0 0) rfl;have e1:=X00 u 1 (.bool false) rfl;replace m:=hid m;go_wp2_with fail;have a7:=X48 m.out (by omega:w.heap.size≠w.heap.size+1) (.slice p2 L.length a) (.bool true);have U:=X47 u (.slice p2 L.length a) (.bool true)
 have C:X4l (fun j=>j<w1.heap.size) W4 ((W4.setCell ⟨w.heap.size+1,0,none⟩ (.slice p2 L.length a)).setCell ⟨w.heap.size+1,1,none⟩ (.bool true)):=X1m (X1T _ ⟨w.heap.size+1,0,none⟩ _ N) (X1T _ ⟨w.heap.size+1,1,none⟩ _ N);have y:=(x.setCell (p:=⟨w.heap.size+1,0,none⟩) (Nat.le_succ _) (.slice p2 L.length a)).setCell (p:=⟨w.heap.size+1,1,none⟩) (Nat.le_succ _) (.bool true);obtain⟨W5,E⟩: ∃W5,(W4.setCell ⟨w.heap.size+1,0,none⟩ (.slice p2 L.length a)).setCell ⟨w.heap.size+1,1,none⟩ (.bool true)=W5:=⟨_,rfl⟩;rw[E] at a7 U C y;replace E:=hid E;replace C:=hid C;rw[E.out]
 refine bodyPost_ret (v:= .agg #[.slice p2 L.length a, .bool true]) ?_ rfl ⟨_,rfl,⟨_,rfl,?_⟩,y⟩
 ·have q0:=X00 U 0 (.slice p2 L.length a) rfl;have q1:=X00 U 1 (.bool true) rfl;simp [results,Tryz.results24,go_sem,q0,q1]
 ·have hO:=X1m (X1m B.out V.out) C.out;exact XmI (Xzd I.out hO) (fun j _ hJ=>Nat.lt_trans (hold j hJ) H)
theorem Xaw:TakeC16:=by
 intro J v c w hold hf hv;unfold Stg.takeC;have hk:=fun W (h:RCh (Up (fun _=>False) w) W v c)=>Xcw (Up (fun _=>False) w) v c W hf h;have a5:=X79 (X0Q (K:=fun _=>False) hv (fun j _ h=>h.elim));obtain⟨p,cap,rfl,ag⟩:=X0m a5;obtain⟨d,hd⟩: ∃d,Stg.asC c=d:=⟨_,rfl⟩;have a0:=Stg.X2I c;rw[hd] at hk a0 ⊢;have a3:=X1n a0;have a1:=(Stg.X11 d).1 a0;have a8:=X0g w #[.slice p c.L.length cap, .bool c.closed] 49;have C:=X0l a8 (.cells #[.slice none 0 0, .bool false] 49);have r:=X0g (w.alloc (.cells #[.slice p c.L.length cap, .bool c.closed] 49)) #[.slice none 0 0, .bool false] 49
 rw[show (w.alloc (.cells #[.slice p c.L.length cap, .bool c.closed] 49)).heap.size=w.heap.size+1 by simp] at r;have k:Below w.heap.size w ((w.alloc (.cells #[.slice p c.L.length cap, .bool c.closed] 49)).alloc (.cells #[.slice none 0 0, .bool false] 49)):=(X04 w _).alloc (by simp) _;have y:=hid (hk _ (X01 a5 k));obtain⟨cl,aa⟩: ∃cl,c.closed=cl:=⟨_,rfl⟩;obtain⟨n,hn⟩: ∃n,c.L.length=n:=⟨_,rfl⟩;rw[aa,hn] at k y C r ⊢;have c0:=X00 C 0 (.slice p n cap) rfl;have c1:=X00 C 1 (.bool cl) rfl;replace k:=hid k;replace r:=hid r;replace C:=hid C;clear aa hn hv a5 hk ag hd a0 a8;obtain⟨L,dc⟩:=d
 dsimp only at y a1 ⊢;obtain⟨aj,ac⟩:=a1;replace ac:=hid ac;replace a3:=hid a3;go_enter Tryz.func26,Tryz.ntmps26;go_wp2_with fail;refine y.out.mono ?_;rintro e w1 ⟨v1,rfl,ad,U⟩;obtain⟨p1,ai,rfl,a4⟩:=X0m ad;dsimp only at a4;have N:=X02 C.out U;have O:=X02 r.out U;have s:=X05 k.out U;clear c0 c1 y k C ad U;clear r;have a7:=hid (Xgj _ ⟨L,dc⟩ w1 a3.out ⟨_,rfl,XmI a4 (fun j _ h=>h.elim)⟩);replace s:=hid s;replace N:=hid N;replace O:=hid O;clear a4;go_wp2_with fail;refine a7.out.mono ?_;rintro e w2 ⟨v2,rfl,ae,V⟩;obtain⟨p2,a,rfl,G⟩:=X0m ae;dsimp only at G;have z:=X02 N.out V;have A:=X02 O.out V
 have m:=X05 s.out V;have D:=X1h N.out;have o:=X1h O.out;clear a7 ae V N O s;have f0:=X06 z 0;have f1:=X06 z 1;have g0:=X06 A 0;have g1:=X06 A 1;have c0:=X00 z 0 (.slice p n cap) rfl;have c1:=X00 z 1 (.bool cl) rfl;have e0:=X00 A 0 (.slice none 0 0) rfl;have e1:=X00 A 1 (.bool false) rfl;go_upto_region 2 with(fail);clear f0 f1 g0 g1 c0 c1 e0 e1;have g:=X47 z (.slice p2 L.length a) (.bool dc);have i:=X48 A (by omega:w.heap.size+1≠w.heap.size) (.slice p2 L.length a) (.bool dc)
 have P:X4l (fun j=>j<w1.heap.size) w2 ((w2.setCell ⟨w.heap.size,0,none⟩ (.slice p2 L.length a)).setCell ⟨w.heap.size,1,none⟩ (.bool dc)):=X1m (X1T _ ⟨w.heap.size,0,none⟩ _ D) (X1T _ ⟨w.heap.size,1,none⟩ _ D);have f:=(m.setCell (p:=⟨w.heap.size,0,none⟩) (Nat.le_refl _) (.slice p2 L.length a)).setCell (p:=⟨w.heap.size,1,none⟩) (Nat.le_refl _) (.bool dc);obtain⟨W3,S⟩: ∃W3,(w2.setCell ⟨w.heap.size,0,none⟩ (.slice p2 L.length a)).setCell ⟨w.heap.size,1,none⟩ (.bool dc)=W3:=⟨_,rfl⟩;rw[S] at g i P f;replace S:=hid S;replace P:=hid P;rw[S.out];have B:=Xzd G P.out;rcases L with _ | ⟨x,t⟩
 ·skip;have f0:=X06 g 0;have f1:=X06 g 1;have g0:=X06 i 0;have g1:=X06 i 1;have c0:=X00 g 0 (.slice p2 0 a) rfl;have c1:=X00 g 1 (.bool dc) rfl;have e0:=X00 i 0 (.slice none 0 0) rfl;have e1:=X00 i 1 (.bool false) rfl;replace z:=hid z;replace A:=hid A;replace m:=hid m;replace g:=hid g;replace G:=hid G;replace B:=hid B;replace f:=hid f;go_wp2_with fail;have ah:=X48 g.out (by omega:w.heap.size≠w.heap.size+1) (.slice p2 0 a) (.bool dc);have a6:=X47 i (.slice p2 0 a) (.bool dc)
  have R:X4l (fun j=>j<w1.heap.size) W3 ((W3.setCell ⟨w.heap.size+1,0,none⟩ (.slice p2 0 a)).setCell ⟨w.heap.size+1,1,none⟩ (.bool dc)):=X1m (X1T _ ⟨w.heap.size+1,0,none⟩ _ o) (X1T _ ⟨w.heap.size+1,1,none⟩ _ o);have H:=(f.out.setCell (p:=⟨w.heap.size+1,0,none⟩) (Nat.le_succ _) (.slice p2 0 a)).setCell (p:=⟨w.heap.size+1,1,none⟩) (Nat.le_succ _) (.bool dc);obtain⟨W5,T⟩: ∃W5,(W3.setCell ⟨w.heap.size+1,0,none⟩ (.slice p2 0 a)).setCell ⟨w.heap.size+1,1,none⟩ (.bool dc)=W5:=⟨_,rfl⟩;rw[T] at ah a6 R H;replace T:=hid T;replace R:=hid R;rw[T.out]
  refine bodyPost_ret (v:= .tuple #[.agg #[.slice p2 0 a, .bool dc], .slice none 0 0, .bool false]) ?_ rfl ⟨_,_,rfl,⟨_,rfl,XmI (Xzd B.out R.out) (fun j _ hJ=>Nat.lt_trans (hold j hJ) D)⟩,⟨X9J _,fun h=>absurd rfl h⟩,H⟩;have q0:=X00 a6 0 (.slice p2 0 a) rfl;have q1:=X00 a6 1 (.bool dc) rfl;simp [results,Tryz.results26,go_sem,q0,q1]
 ·obtain⟨b,off,rfl,hb,hJ,I⟩:=XmG B (by simp);obtain⟨u,hu,E⟩:=I 0 (by simp);obtain⟨p0,k0,rfl⟩:=X0b E.1;replace E:RIo (fun j=>j<w1.heap.size) W3 (.slice p0 x.length k0) x:=E;replace hu:W3.cell? ⟨b,off,none⟩=some (.slice p0 x.length k0):=hu;obtain⟨af,a2,_⟩:=Xze B;have ab:b≠w.heap.size+1:=fun e=>hJ (e ▸ o);have F:w.heap.size≠w.heap.size+1:=by omega
  have l:=XDb B 1 (by simp) (by simp);replace l:RRo (fun j=>j<w1.heap.size) W3 (.slice (some ⟨b,off+1,none⟩) (t.length+1 - 1) (a - 1)) t:=l;rw[show t.length+1 - 1=t.length from rfl] at l;replace l:=hid l;have n1:t.length+1≤a:=a2;have M: ∀ (j:Nat),j<W3.heap.size→J j→j<w1.heap.size:=fun j _ hJ=>Nat.lt_trans (hold j hJ) D;replace M:=hid M;clear I;replace E:=hid E;have f0:=X06 g 0;have f1:=X06 g 1;have g0:=X06 i 0;have g1:=X06 i 1;have c0:=X00 g 0 (.slice (some ⟨b,off,none⟩) (t.length+1) a) rfl;have c1:=X00 g 1 (.bool dc) rfl;have e0:=X00 i 0 (.slice none 0 0) rfl
  have e1:=X00 i 1 (.bool false) rfl;replace z:=hid z;replace A:=hid A;replace m:=hid m;replace g:=hid g;replace i:=hid i;replace f:=hid f;replace G:=hid G;replace B:=hid B;go_upto_region 4 with(fail);rcases Nat.eq_or_lt_of_le (Nat.le_trans (Nat.le_add_left 1 t.length) n1) with a9 | a9
  ·obtain rfl:a=1:=a9.symm;obtain rfl:t= []:=List.eq_nil_of_length_eq_zero (by omega);replace c0:W3.cell? ⟨w.heap.size,0,none⟩=some (.slice (some ⟨b,off,none⟩) 1 1):=c0;have HS:=hid (fun u0 u1=>XeU ⟨c0,c1,hu⟩ F F ab u0 u1)
   go_region_held3 (fun w'=>w'.cell? ⟨w.heap.size,0,none⟩=some (.slice (some ⟨b,off,none⟩) 1 1)∧w'.cell? ⟨w.heap.size,1,none⟩=some (.bool dc)∧w'.cell? ⟨b,off,none⟩=some (.slice p0 x.length k0)) (first | with_reducible exact HS.out _ _ | go_keep) (fail)
   all_goals
    go_wp2_with fail;have q:=X47 i.out (.slice (some ⟨b,off,none⟩) 0 0) (.bool dc);have q0:=X00 q 0 (.slice (some ⟨b,off,none⟩) 0 0) rfl;have q1:=X00 q 1 (.bool dc) rfl;have hO:X4l (fun j=>j<w1.heap.size) W3 ((W3.setCell ⟨w.heap.size+1,0,none⟩ (.slice (some ⟨b,off,none⟩) 0 0)).setCell ⟨w.heap.size+1,1,none⟩ (.bool dc)):=X1m (X1T _ ⟨w.heap.size+1,0,none⟩ _ o) (X1T _ ⟨w.heap.size+1,1,none⟩ _ o);have hB:=(f.out.setCell (p:=⟨w.heap.size+1,0,none⟩) (Nat.le_succ _) (.slice (some ⟨b,off,none⟩) 0 0)).setCell (p:=⟨w.heap.size+1,1,none⟩) (Nat.le_succ _) (.bool dc)
    refine bodyPost_ret (v:= .tuple #[.agg #[.slice (some ⟨b,off,none⟩) 0 0, .bool dc], .slice p0 x.length k0, .bool true]) ?_ rfl ⟨_,_,rfl,⟨_,rfl,XDc _ _ _ _ (fun h=>by cases h)⟩,X49 (show RIo (fun j=>j<w1.heap.size) ((W3.setCell ⟨w.heap.size+1,0,none⟩ (.slice (some ⟨b,off,none⟩) 0 0)).setCell ⟨w.heap.size+1,1,none⟩ (.bool dc)) _ _ from X4o E.out hO) (fun j _ hJ=>Nat.lt_trans (hold j hJ) D),X05 hB (Below.refl _ _).drew⟩;simp [results,Tryz.results26,go_sem,q0,q1]
  ·have n2:(1:Int)<(a:Int):=by omega
   have n3:(1:Int)≤(t.length:Int)+1:=by omega
   have n4:(t.length:Int)+1≤(a:Int):=by omega
   have HS:=hid (fun u0 u1=>XeU ⟨c0,c1,hu⟩ F F ab u0 u1)
   go_region_held3 (fun w'=>w'.cell? ⟨w.heap.size,0,none⟩=some (.slice (some ⟨b,off,none⟩) (t.length+1) a)∧w'.cell? ⟨w.heap.size,1,none⟩=some (.bool dc)∧w'.cell? ⟨b,off,none⟩=some (.slice p0 x.length k0)) (first | with_reducible exact HS.out _ _ | go_keep) (fail)
   all_goals
    go_wp2_with fail;have q:=X47 i.out (.slice (some ⟨b,off+1,none⟩) t.length (a - 1)) (.bool dc);have q0:=X00 q 0 (.slice (some ⟨b,off+1,none⟩) t.length (a - 1)) rfl;have q1:=X00 q 1 (.bool dc) rfl;have hO:X4l (fun j=>j<w1.heap.size) W3 ((W3.setCell ⟨w.heap.size+1,0,none⟩ (.slice (some ⟨b,off+1,none⟩) t.length (a - 1))).setCell ⟨w.heap.size+1,1,none⟩ (.bool dc)):=X1m (X1T _ ⟨w.heap.size+1,0,none⟩ _ o) (X1T _ ⟨w.heap.size+1,1,none⟩ _ o)
    have hB:=(f.out.setCell (p:=⟨w.heap.size+1,0,none⟩) (Nat.le_succ _) (.slice (some ⟨b,off+1,none⟩) t.length (a - 1))).setCell (p:=⟨w.heap.size+1,1,none⟩) (Nat.le_succ _) (.bool dc)
    refine bodyPost_ret (v:= .tuple #[.agg #[(.slice (some ⟨b,off+1,none⟩) t.length (a - 1)), .bool dc], .slice p0 x.length k0, .bool true]) ?_ rfl ⟨_,_,rfl,⟨_,rfl,XmI (show RRo (fun j=>j<w1.heap.size) ((W3.setCell ⟨w.heap.size+1,0,none⟩ (.slice (some ⟨b,off+1,none⟩) t.length (a - 1))).setCell ⟨w.heap.size+1,1,none⟩ (.bool dc)) _ _ from Xzd l.out hO) (fun j _ hJ=>Nat.lt_trans (hold j hJ) D)⟩,X49 (show RIo (fun j=>j<w1.heap.size) ((W3.setCell ⟨w.heap.size+1,0,none⟩ (.slice (some ⟨b,off+1,none⟩) t.length (a - 1))).setCell ⟨w.heap.size+1,1,none⟩ (.bool dc)) _ _ from X4o E.out hO) (fun j _ hJ=>Nat.lt_trans (hold j hJ) D),X05 hB (Below.refl _ _).drew⟩
    simp [results,Tryz.results26,go_sem,q0,q1]
theorem XeT:PutC16:=by
 intro J v c vb b w hold hf aw hv ap;unfold Stg.putC;have a5:=Stg.X4S b;obtain⟨pb,cb,rfl⟩:=X0b ap.1;have ai:=Xi7 (X49 (K:=fun _=>False) ap (fun j _ h=>h.elim));have hk:=fun W (h:RCh (Up (fun _=>False) w) W v c)=>Xcw (Up (fun _=>False) w) v c W hf h;have ao:=X79 (X0Q (K:=fun _=>False) hv (fun j _ h=>h.elim));obtain⟨p,cap,rfl,ax⟩:=X0m ao;obtain⟨d,hd⟩: ∃d,Stg.asC c=d:=⟨_,rfl⟩;have af:=Stg.X2I c;rw[hd] at hk af ⊢;have am:=X1n af;have ah:=(Stg.X11 d).1 af;have aq:=X0g w #[.slice p c.L.length cap, .bool c.closed] 49;have T:=X0l aq (.cells #[.slice none 0 0, .bool false] 49)
 have N:=X0g (w.alloc (.cells #[.slice p c.L.length cap, .bool c.closed] 49)) #[.slice none 0 0, .bool false] 49;rw[show (w.alloc (.cells #[.slice p c.L.length cap, .bool c.closed] 49)).heap.size=w.heap.size+1 by simp] at N;have B:Below w.heap.size w ((w.alloc (.cells #[.slice p c.L.length cap, .bool c.closed] 49)).alloc (.cells #[.slice none 0 0, .bool false] 49)):=(X04 w _).alloc (by simp) _;have O:=hid (hk _ (X01 ao B));obtain⟨cl,ar⟩: ∃cl,c.closed=cl:=⟨_,rfl⟩;obtain⟨n,hn⟩: ∃n,c.L.length=n:=⟨_,rfl⟩;rw[ar,hn] at B O T N ⊢;have c0:=X00 T 0 (.slice p n cap) rfl;have c1:=X00 T 1 (.bool cl) rfl
 replace B:=hid B;replace N:=hid N;replace T:=hid T;clear ar hn hv ao hk ax hd af aq;obtain⟨L,dc⟩:=d;dsimp only at O ah ⊢;obtain⟨aA,an⟩:=ah;replace an:=hid an;replace am:=hid am;have aj:=hid (fun W (h:X4l (Up (fun _=>False) w) w W)=>X4o ai h);clear ap ai;have M:=fun W=>Xi0 pb cb b W;obtain⟨OK,ak⟩: ∃OK,Stg.okB b=OK:=⟨_,rfl⟩;rw[ak] at a5 ⊢;replace M:=fun W=>ak ▸ M W;obtain⟨m,hm⟩: ∃m,b.length=m:=⟨_,rfl⟩;rw[hm] at a5 aw aj M ⊢;replace hold:=hid hold;clear ak;obtain⟨Q,hQ⟩: ∃Q,(if OK=true∧dc=false∧L.length<2 then ((⟨L++ [b],false⟩:Ch),true) else (⟨L,dc⟩,false))=Q:=⟨_,rfl⟩;rw[hQ];replace hQ:=hid hQ
 replace hm:=hid hm;replace a5:=hid a5;replace M:=hid M;go_enter Tryz.func25,Tryz.ntmps25;go_wp2_with fail;refine O.out.mono ?_;rintro e w1 ⟨v1,rfl,av,aa⟩;obtain⟨p1,C,rfl,ac⟩:=X0m av;dsimp only at ac;have V:=X02 T.out aa;have a2:=X02 N.out aa;have R:=X05 B.out aa;clear c0 c1 O B T av aa;clear N;have f0:=X06 V 0;have f1:=X06 V 1;have g0:=X06 a2 0;have g1:=X06 a2 1;have c0:=X00 V 0 (.slice p n cap) rfl;have c1:=X00 V 1 (.bool cl) rfl;have e0:=X00 a2 0 (.slice none 0 0) rfl;have e1:=X00 a2 1 (.bool false) rfl;go_upto_region 2 with(fail);clear f0 f1 g0 g1 c0 c1 e0 e1
 have u:=X47 V (.slice p1 L.length C) (.bool dc);have y:=X48 a2 (by omega:w.heap.size+1≠w.heap.size) (.slice p1 L.length C) (.bool dc);have a8:X4l (Up (fun _=>False) w) w1 ((w1.setCell ⟨w.heap.size,0,none⟩ (.slice p1 L.length C)).setCell ⟨w.heap.size,1,none⟩ (.bool dc)):=X1m (X1T _ ⟨w.heap.size,0,none⟩ _ (.inr (Nat.le_refl _))) (X1T _ ⟨w.heap.size,1,none⟩ _ (.inr (Nat.le_refl _)));have g:=(R.setCell (p:=⟨w.heap.size,0,none⟩) (Nat.le_refl _) (.slice p1 L.length C)).setCell (p:=⟨w.heap.size,1,none⟩) (Nat.le_refl _) (.bool dc)
 obtain⟨W3,a9⟩: ∃W3,(w1.setCell ⟨w.heap.size,0,none⟩ (.slice p1 L.length C)).setCell ⟨w.heap.size,1,none⟩ (.bool dc)=W3:=⟨_,rfl⟩;rw[a9] at u y a8 g;replace a9:=hid a9;replace a8:=hid a8;rw[a9.out];have ad:=Xzd ac a8.out;have a7:=aj.out W3 (X1e g);have G:=hid (Xgj _ ⟨L,dc⟩ W3 am.out ⟨_,rfl,XmI ad (fun j _ h=>h.elim)⟩);have f0:=X06 u 0;have f1:=X06 u 1;have g0:=X06 y 0;have g1:=X06 y 1;have c0:=X00 u 0 (.slice p1 L.length C) rfl;have c1:=X00 u 1 (.bool dc) rfl;have e0:=X00 y 0 (.slice none 0 0) rfl;have e1:=X00 y 1 (.bool false) rfl;replace V:=hid V;replace a2:=hid a2;replace R:=hid R
 replace ac:=hid ac;replace u:=hid u;replace y:=hid y;replace g:=hid g;replace ad:=hid ad;replace a7:=hid a7;go_wp2_with fail;refine(M.out W3).mono ?_;rintro e w2 ⟨rfl,ay⟩;obtain rfl:W3=w2:=ay.symm;rcases OK with _ | _
 ·have P:=hid (show ¬(false=true∧dc=false∧L.length<2) from fun h=>by simp at h);go_wp2_with fail;refine G.out.mono ?_;rintro e w9 ⟨v8,rfl,F,t⟩;obtain⟨p8,a,rfl,o⟩:=X0m F;dsimp only at o;have k:=X02 u.out t;have l:=X02 y.out t;have f:=X05 g.out t;have U:=X1h u.out;have z:=X1h y.out;clear G F t u y g f0 f1 g0 g1 c0 c1 e0 e1;have f0:=X06 k 0;have f1:=X06 k 1;have g0:=X06 l 0;have g1:=X06 l 1;have c0:=X00 k 0 _ rfl;have c1:=X00 k 1 _ rfl;have e0:=X00 l 0 (.slice none 0 0) rfl;have e1:=X00 l 1 (.bool false) rfl;replace o:=hid o;replace f:=hid f;go_wp2_with fail
  have a1:=X48 k (by omega:w.heap.size≠w.heap.size+1) (.slice p8 L.length a) (.bool dc);have A:=X47 l (.slice p8 L.length a) (.bool dc);have r:X4l (fun j=>j<W3.heap.size) w9 ((w9.setCell ⟨w.heap.size+1,0,none⟩ (.slice p8 L.length a)).setCell ⟨w.heap.size+1,1,none⟩ (.bool dc)):=X1m (X1T _ ⟨w.heap.size+1,0,none⟩ _ z) (X1T _ ⟨w.heap.size+1,1,none⟩ _ z);have i:=(f.out.setCell (p:=⟨w.heap.size+1,0,none⟩) (Nat.le_succ _) (.slice p8 L.length a)).setCell (p:=⟨w.heap.size+1,1,none⟩) (Nat.le_succ _) (.bool dc)
  obtain⟨W9,s⟩: ∃W9,(w9.setCell ⟨w.heap.size+1,0,none⟩ (.slice p8 L.length a)).setCell ⟨w.heap.size+1,1,none⟩ (.bool dc)=W9:=⟨_,rfl⟩;rw[s] at a1 A r i;replace s:=hid s;replace r:=hid r;rw[s.out];have q0:=X00 A 0 (.slice p8 L.length a) rfl;have q1:=X00 A 1 (.bool dc) rfl;refine bodyPost_ret (v:= .tuple #[.agg #[.slice p8 L.length a, .bool dc], .bool false]) ?_ rfl ⟨_,by rw[←hQ.out,if_neg P.out],by rw[←hQ.out,if_neg P.out];exact⟨_,rfl,XmI (Xzd o.out r.out) (fun j _ hJ=>Nat.lt_trans (hold.out j hJ) U)⟩,i⟩;simp [results,Tryz.results25,go_sem,q0,q1];all_goals omega
 ·rcases dc with _ | _
  ·by_cases h3:2≤L.length
   ·have n3: ¬(L.length:Int)<2:=by omega
    have aB:(2:Int)≤(L.length:Int):=by omega
    have P:=hid (show ¬(true=true∧false=false∧L.length<2) from fun h=>by omega);go_wp2_with fail;refine G.out.mono ?_;rintro e w9 ⟨v8,rfl,F,t⟩;obtain⟨p8,a,rfl,o⟩:=X0m F;dsimp only at o;have k:=X02 u.out t;have l:=X02 y.out t;have f:=X05 g.out t;have U:=X1h u.out;have z:=X1h y.out;clear G F t u y g f0 f1 g0 g1 c0 c1 e0 e1;have f0:=X06 k 0;have f1:=X06 k 1;have g0:=X06 l 0;have g1:=X06 l 1;have c0:=X00 k 0 _ rfl;have c1:=X00 k 1 _ rfl;have e0:=X00 l 0 (.slice none 0 0) rfl;have e1:=X00 l 1 (.bool false) rfl;replace o:=hid o;replace f:=hid f;go_wp2_with fail
    have a1:=X48 k (by omega:w.heap.size≠w.heap.size+1) (.slice p8 L.length a) (.bool false);have A:=X47 l (.slice p8 L.length a) (.bool false);have r:X4l (fun j=>j<W3.heap.size) w9 ((w9.setCell ⟨w.heap.size+1,0,none⟩ (.slice p8 L.length a)).setCell ⟨w.heap.size+1,1,none⟩ (.bool false)):=X1m (X1T _ ⟨w.heap.size+1,0,none⟩ _ z) (X1T _ ⟨w.heap.size+1,1,none⟩ _ z);have i:=(f.out.setCell (p:=⟨w.heap.size+1,0,none⟩) (Nat.le_succ _) (.slice p8 L.length a)).setCell (p:=⟨w.heap.size+1,1,none⟩) (Nat.le_succ _) (.bool false)
    obtain⟨W9,s⟩: ∃W9,(w9.setCell ⟨w.heap.size+1,0,none⟩ (.slice p8 L.length a)).setCell ⟨w.heap.size+1,1,none⟩ (.bool false)=W9:=⟨_,rfl⟩;rw[s] at a1 A r i;replace s:=hid s;replace r:=hid r;rw[s.out];have q0:=X00 A 0 (.slice p8 L.length a) rfl;have q1:=X00 A 1 (.bool false) rfl;refine bodyPost_ret (v:= .tuple #[.agg #[.slice p8 L.length a, .bool false], .bool false]) ?_ rfl ⟨_,by rw[←hQ.out,if_neg P.out],by rw[←hQ.out,if_neg P.out];exact⟨_,rfl,XmI (Xzd o.out r.out) (fun j _ hJ=>Nat.lt_trans (hold.out j hJ) U)⟩,i⟩;simp [results,Tryz.results25,go_sem,q0,q1];all_goals omega
   ·have n3:(L.length:Int)<2:=by omega
    have h4:L.length<2:=by omega
    clear G;have ag:=hid (XvW (fun j=>j=w.heap.size∨j=w.heap.size+1) _ _ L b W3 (fun j hj=>by have:=X1h u.out;have:=X1h y.out;omega) (by omega) (XmI ad.out (fun j _ hj=> .inr (by omega))) (X49 a7.out (fun j _ hj=> .inr (by omega))));have az:=a5.out.1 rfl;go_wp2_with fail;refine ag.out.mono ?_;rintro e w4 ⟨v4,rfl,a6,ab⟩;obtain⟨p4,D,rfl⟩:=XmH a6;obtain⟨q,hq⟩: ∃q,(L++ [b]).length=q:=⟨_,rfl⟩;rw[hq] at a6 ⊢;have a0:=X02 u.out ab;have a3:=X02 y.out ab;have S:=X05 g.out ab;clear ag ab u y g f0 f1 g0 g1 c0 c1 e0 e1;have f0:=X06 a0 0;have f1:=X06 a0 1;have g0:=X06 a3 0;have g1:=X06 a3 1
    have c0:=X00 a0 0 (.slice p1 L.length C) rfl;have c1:=X00 a0 1 (.bool false) rfl;have e0:=X00 a3 0 (.slice none 0 0) rfl;have e1:=X00 a3 1 (.bool false) rfl;go_upto_region 5 with(fail);have H:=X0I a0 0 (.slice p4 q D);have I:=X4n a3 ⟨w.heap.size,0,none⟩ (.slice p4 q D) (by show w.heap.size+1≠w.heap.size;omega);have E:=S.setCell (p:=⟨w.heap.size,0,none⟩) (Nat.le_refl _) (.slice p4 q D);have ae:=Xzd a6 (X1T (J:=fun j=>j=w.heap.size∨j=w.heap.size+1) w4 ⟨w.heap.size,0,none⟩ (.slice p4 q D) (.inl rfl));clear f0 f1 g0 g1 c0 c1 e0 e1
    obtain⟨W5,al⟩: ∃W5,w4.setCell ⟨w.heap.size,0,none⟩ (.slice p4 q D)=W5:=⟨_,rfl⟩;rw[al] at H I E ae ⊢;replace al:=hid al;have au:(⟨L++ [b],false⟩:Ch).Few:=X1n ((Stg.X11 _).2 ⟨by simp;omega,fun x hx=>by
     rcases List.mem_append.1 hx with hx | hx
     ·exact an.out x hx
     ·obtain rfl:x=b:=by simpa using hx
      have:=hm.out;omega⟩)
    have G:=hid (Xgj (.agg #[.slice p4 q D, .bool false]) ⟨L++ [b],false⟩ W5 au ⟨_,rfl,XmI ae (fun j _ h=>h.elim)⟩);have f0:=X06 H 0;have f1:=X06 H 1;have g0:=X06 I 0;have g1:=X06 I 1;have c0:=X00 H 0 (.slice p4 q D) rfl;have c1:=X00 H 1 (.bool false) rfl;have e0:=X00 I 0 (.slice none 0 0) rfl;have e1:=X00 I 1 (.bool false) rfl;replace a0:=hid a0;replace a3:=hid a3;replace S:=hid S;replace a6:=hid a6;replace H:=hid H;replace I:=hid I;replace E:=hid E;replace ae:=hid ae;have a4:=hQ.out;rw[if_pos ⟨by trivial,by trivial,h4⟩] at a4;replace a4:=hid a4;replace hq:=hid hq;go_wp2_with fail
    refine G.out.mono ?_;rintro e w9 ⟨v8,rfl,F,t⟩;obtain⟨p8,a,rfl,o⟩:=X0m F;dsimp only at o;rw[hq.out] at o ⊢;have k:=X02 H.out t;have l:=X02 I.out t;have f:=X05 E.out t;have U:=X1h H.out;have z:=X1h I.out;clear G F t H I E f0 f1 g0 g1 c0 c1 e0 e1;have f0:=X06 k 0;have f1:=X06 k 1;have g0:=X06 l 0;have g1:=X06 l 1;have c0:=X00 k 0 _ rfl;have c1:=X00 k 1 _ rfl;have e0:=X00 l 0 (.slice none 0 0) rfl;have e1:=X00 l 1 (.bool false) rfl;replace o:=hid o;replace f:=hid f;go_wp2_with fail;have a1:=X48 k (by omega:w.heap.size≠w.heap.size+1) (.slice p8 q a) (.bool false)
    have A:=X47 l (.slice p8 q a) (.bool false);have r:X4l (fun j=>j<W5.heap.size) w9 ((w9.setCell ⟨w.heap.size+1,0,none⟩ (.slice p8 q a)).setCell ⟨w.heap.size+1,1,none⟩ (.bool false)):=X1m (X1T _ ⟨w.heap.size+1,0,none⟩ _ z) (X1T _ ⟨w.heap.size+1,1,none⟩ _ z);have i:=(f.out.setCell (p:=⟨w.heap.size+1,0,none⟩) (Nat.le_succ _) (.slice p8 q a)).setCell (p:=⟨w.heap.size+1,1,none⟩) (Nat.le_succ _) (.bool false);obtain⟨W9,s⟩: ∃W9,(w9.setCell ⟨w.heap.size+1,0,none⟩ (.slice p8 q a)).setCell ⟨w.heap.size+1,1,none⟩ (.bool false)=W9:=⟨_,rfl⟩;rw[s] at a1 A r i;replace s:=hid s;replace r:=hid r;rw[s.out]
    have q0:=X00 A 0 (.slice p8 q a) rfl;have q1:=X00 A 1 (.bool false) rfl;refine bodyPost_ret (v:= .tuple #[.agg #[.slice p8 q a, .bool false], .bool true]) ?_ rfl ⟨_,by rw[←a4.out],by rw[←a4.out];exact⟨_,rfl,XmI (Xzd o.out r.out) (fun j _ hJ=>Nat.lt_trans (hold.out j hJ) U)⟩,i⟩;simp [results,Tryz.results25,go_sem,q0,q1];all_goals omega
  ·have P:=hid (show ¬(true=true∧true=false∧L.length<2) from fun h=>by simp at h);go_wp2_with fail;refine G.out.mono ?_;rintro e w9 ⟨v8,rfl,F,t⟩;obtain⟨p8,a,rfl,o⟩:=X0m F;dsimp only at o;have k:=X02 u.out t;have l:=X02 y.out t;have f:=X05 g.out t;have U:=X1h u.out;have z:=X1h y.out;clear G F t u y g f0 f1 g0 g1 c0 c1 e0 e1;have f0:=X06 k 0;have f1:=X06 k 1;have g0:=X06 l 0;have g1:=X06 l 1;have c0:=X00 k 0 _ rfl;have c1:=X00 k 1 _ rfl;have e0:=X00 l 0 (.slice none 0 0) rfl;have e1:=X00 l 1 (.bool false) rfl;replace o:=hid o;replace f:=hid f;go_wp2_with fail
   have a1:=X48 k (by omega:w.heap.size≠w.heap.size+1) (.slice p8 L.length a) (.bool true);have A:=X47 l (.slice p8 L.length a) (.bool true);have r:X4l (fun j=>j<W3.heap.size) w9 ((w9.setCell ⟨w.heap.size+1,0,none⟩ (.slice p8 L.length a)).setCell ⟨w.heap.size+1,1,none⟩ (.bool true)):=X1m (X1T _ ⟨w.heap.size+1,0,none⟩ _ z) (X1T _ ⟨w.heap.size+1,1,none⟩ _ z);have i:=(f.out.setCell (p:=⟨w.heap.size+1,0,none⟩) (Nat.le_succ _) (.slice p8 L.length a)).setCell (p:=⟨w.heap.size+1,1,none⟩) (Nat.le_succ _) (.bool true)
   obtain⟨W9,s⟩: ∃W9,(w9.setCell ⟨w.heap.size+1,0,none⟩ (.slice p8 L.length a)).setCell ⟨w.heap.size+1,1,none⟩ (.bool true)=W9:=⟨_,rfl⟩;rw[s] at a1 A r i;replace s:=hid s;replace r:=hid r;rw[s.out];have q0:=X00 A 0 (.slice p8 L.length a) rfl;have q1:=X00 A 1 (.bool true) rfl;refine bodyPost_ret (v:= .tuple #[.agg #[.slice p8 L.length a, .bool true], .bool false]) ?_ rfl ⟨_,by rw[←hQ.out,if_neg P.out],by rw[←hQ.out,if_neg P.out];exact⟨_,rfl,XmI (Xzd o.out r.out) (fun j _ hJ=>Nat.lt_trans (hold.out j hJ) U)⟩,i⟩;simp [results,Tryz.results25,go_sem,q0,q1];all_goals omega
theorem X7M:CountC16:=by
 intro J v c w hf hv;unfold Stg.X1Z;have hk:=fun W (h:RCh (Up (fun _=>False) w) W v c)=>Xcw (Up (fun _=>False) w) v c W hf h;have D:=X79 (X0Q (K:=fun _=>False) hv (fun j _ h=>h.elim));obtain⟨p,cap,rfl,N⟩:=X0m D;obtain⟨d,hd⟩: ∃d,Stg.asC c=d:=⟨_,rfl⟩;have x:=Stg.X2I c;rw[hd] at hk x ⊢;have F:=X1n x;have y:=(Stg.X11 d).1 x;have l:=X0g w #[.slice p c.L.length cap, .bool c.closed] 49;have a:=X04 w (.cells #[.slice p c.L.length cap, .bool c.closed] 49);have f:=hid (hk _ (X01 D a));obtain⟨cl,E⟩: ∃cl,c.closed=cl:=⟨_,rfl⟩;obtain⟨n,hn⟩: ∃n,c.L.length=n:=⟨_,rfl⟩;rw[E,hn] at a f l ⊢
 have c0:=X00 l 0 (.slice p n cap) rfl;have c1:=X00 l 1 (.bool cl) rfl;replace a:=hid a;replace l:=hid l;clear E hn hv D hk N hd x;obtain⟨L,dc⟩:=d;dsimp only at f y ⊢;obtain⟨V,C⟩:=y;replace C:=hid C;replace F:=hid F;have A:=fun j h=>XkN L j h;have R: ∀ (p1:Option Addr) (n1 c1:Nat) (b1:Bool) (W:World),(Instr.field 49 (.agg #[.slice p1 n1 c1, .bool b1]) 0).run Tryz.prog W= .ok (.slice p1 n1 c1) W:=fun _ _ _ _ _=>by kernel_rfl
 replace A:=hid A;go_enter Tryz.func31,Tryz.ntmps31;go_wp2_with fail;refine f.out.mono ?_;rintro e w1 ⟨v1,rfl,M,z⟩;obtain⟨p1,P,rfl,s⟩:=X0m M;dsimp only at s;have O:=X02 l.out z;have i:=X05 a.out z;clear c0 c1 f a l M z;replace i:=hid i;replace s:=hid s;clear O;go_wp2_with fail;go_loopg [3,5,10] L.length (fun g vn vb vi wr=>∃k:Nat,k≤L.length∧vi= .int .i64 k∧g=L.length - k∧wr=w1∧vn= .int .i64 ((L.take k).flatten.length:Nat)∧(L.take k).flatten.length≤8 *k)
 case atStart=>exact⟨0,Nat.zero_le _,rfl,rfl,rfl,rfl,Nat.le_refl _⟩
 case round=>
  obtain⟨k,hk,rfl,rfl,rfl,rfl,B⟩:=hrel;by_cases hlt:k<L.length
  ·have H:(k:Int)<(L.length:Int):=by omega
   obtain⟨b,off,rfl,hb,hJ,q⟩:=XmG s.out (by omega);obtain⟨u,hu,I⟩:=q k hlt;obtain⟨pk,ck,rfl⟩:=X0b I.1;have G:=C.out L[k] (List.getElem_mem hlt);have o:=A.out k hlt;obtain⟨m,hm⟩: ∃m,L[k].length=m:=⟨_,rfl⟩;obtain⟨t,ht⟩: ∃t,(L.take k).flatten.length=t:=⟨_,rfl⟩;obtain⟨t2,r⟩: ∃t2,(L.take (k+1)).flatten.length=t2:=⟨_,rfl⟩;rw[hm] at hu G o;rw[ht] at B o ⊢;rw[r] at o;replace r:=hid r;replace o:=hid o;clear q I hm ht;obtain⟨T,U⟩:=G;have hI:(0:Int)≤(t:Int)+(m:Int):=by omega
   have S:(t:Int)+(m:Int)≤100:=by omega
   go_wp2_with fail;go_roundg (L.length - (k+1))
   case measure=>omega
   case rel=>exact⟨k+1,by omega,by go_num,rfl,rfl,by rw[r.out,o.out];go_num,by rw[r.out,o.out];omega⟩
  ·obtain rfl:k=L.length:=by omega
   have H:decide ((L.length:Int)<(L.length:Int))=false:=by simp
   rw[List.take_length] at B ⊢;obtain⟨t,ht⟩: ∃t,L.flatten.length=t:=⟨_,rfl⟩;rw[ht] at B ⊢;go_wp2_with fail;go_ret;exact⟨by rw[ht];rfl,i.out⟩
abbrev N0:Nat→Prop:=fun _=>False
theorem X0f{w w1:World}{a:Addr}{u:Value}(h:w.cell? a=some u)(hb:Below w.heap.size w w1):w1.cell? a=some u:=by rw[hb.cell (World.block_lt_of_cell? _ _ h)];exact h
theorem X9j(b:Bool):(b != b)=false:=by cases b <;> rfl
theorem X9k(b:Bool):(b == b)=true:=by cases b <;> rfl
theorem old0(w:World):Old N0 w:=fun _ h=>h.elim
end Go.Proofs.YtkofnpkopbnocaaGreatDoor
