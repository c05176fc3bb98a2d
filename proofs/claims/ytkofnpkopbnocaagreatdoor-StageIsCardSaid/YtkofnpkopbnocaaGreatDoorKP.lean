import Derived.Deep.RegionLaw
import Derived.Laws.AppendOwnNone
import Derived.WalkKit
import Derived.Test.YtkofnpkopbnocaaGreatDoorBasP
import Derived.Test.YtkofnpkopbnocaaGreatDoorMatP
import Derived.Deep.RegionHeld3
set_option linter.unusedSimpArgs false
set_option linter.unusedVariables false
set_option maxHeartbeats 400000
namespace Go.Proofs.YtkofnpkopbnocaaGreatDoor
open Go
theorem Xds{P:Program}{ops:Array Oper}{o:Oper}{a:Act}{w:World}{K:Act→World→Prop}{Q:Exit→Act→World→Prop}{E:Prop}
 (hg:o.guard=none) (s x:Operand) (t:TypeId) (hop:o.op=Op.call { callee:=Callee.builtin Builtin.append,args:= #[s,x],argTypes:= #[t,t] })
 (base:Nat) (e:TypeId) (i:TypeInfo) (z:Value) (size bytes:Nat) (h1:P.underlying t=some (.slice e)) (h2:P.info? e=some i) (h3:i.zero=some z) (h4:i.size=size) (h5:i.bytes=bytes) (h6:z.cells.size=size) (h7:0<size)
 (v:Value) (n:Nat) (xs:List Value) (hs:a.eval s=v) (hown:w.ownsRow base e size v n xs)
 (ad:Addr) (m c:Nat) (news:List Value) (hx:a.eval x= .slice (some ad) m c) (hn:news.length=m *size) (hc: ∀j u,news[j]? =some u→w.cell? (ad.add j)=some u) (h1c: ∀u∈news,u.oneCell'=true)
 (b1:n+m≤maxLen) (b2:(n+m) *bytes≤140737488355328) (hb:base≤w.heap.size)
 (hK: ∀v' w',w'.ownsRow base e size v' (n+m) (xs++news)→w.grownBy w' v.ownBlock→K (a.put o.dst v') w'):
 if Region.wanted o (yielded ops a.tmps)=true then Oper.wp P o a w K Q else E:=by
 have hw:Region.wanted o (yielded ops a.tmps)=true:=by simp [Region.wanted,hg]
 rw[if_pos hw];obtain⟨v',w',b,r1,r2,_⟩:=run_append_own (P:=P) w base t o.type e i z size bytes h1 h2 h3 h4 h5 h6 h7 v n xs hown ad m c news hn hc h1c b1 b2 hb;unfold Oper.wp;simp [execOp,hop,resolve,invoke,builtin,hs,hx,b,Result.andThen];exact hK v' w' r1 r2
theorem X8o{P:Program}{ops:Array Oper}{o:Oper}{a:Act}{w:World}{K:Act→World→Prop}{Q:Exit→Act→World→Prop}{E:Prop}
 (hg:o.guard=none) (s x:Operand) (t:TypeId) (hop:o.op=Op.call { callee:=Callee.builtin Builtin.append,args:= #[s,x],argTypes:= #[t,t] })
 (base:Nat) (e:TypeId) (i:TypeInfo) (size:Nat) (h1:P.underlying t=some (.slice e)) (h2:P.info? e=some i)
 (v:Value) (n:Nat) (xs:List Value) (hs:a.eval s=v) (hown:w.ownsRow base e size v n xs) (hx:a.eval x= .slice none 0 0)
 (hK:K (a.put o.dst v) w):
 if Region.wanted o (yielded ops a.tmps)=true then Oper.wp P o a w K Q else E:=by
 have hw:Region.wanted o (yielded ops a.tmps)=true:=by simp [Region.wanted,hg]
 rw[if_pos hw];have b:=run_append_owned_none (P:=P) (w:=w) base t o.type e i size h1 h2 v n xs hown;unfold Oper.wp;simp [execOp,hop,resolve,invoke,builtin,hs,hx,b,Result.andThen];exact hK
open Go Go.RowKit
def Lies(v' v:Value)(w:World):Prop:=v'.ownBlock=v.ownBlock∨∃k,v'.ownBlock=some k∧w.heap.size≤k
theorem X7t{P:Program}(w:World)(base:Nat)(t ty e:TypeId)(i:TypeInfo)(z:Value)(size bytes:Nat)(ht:P.underlying t=some (.slice e))(hi:P.info? e=some i)(hz:i.zero=some z)
 (hsize:i.size=size) (hby:i.bytes=bytes) (hzs:z.cells.size=size) (hsz:0<size)
 (v:Value) (n:Nat) (xs:List Value) (b:w.ownsRow base e size v n xs)
 (a:Addr) (m c:Nat) (news:List Value) (hl:news.length=m *size) (hnews: ∀j u,news[j]? =some u→w.cell? (a.add j)=some u) (h1: ∀u∈news,u.oneCell'=true)
 (h63:n+m≤maxLen) (hbytes:(n+m) *bytes≤140737488355328) (hbase:base≤w.heap.size) (v':Value) (w':World)
 (hr:(Builtin.append_ #[t,t] ty #[v, .slice (some a) m c]).run P w= .ok v' w'):Lies v' v w:=by
 have k:n+m≤9223372036854775807:=by simp only[maxLen] at h63;omega
 subst hsize;subst hby;rcases b.2 with⟨rfl,rfl⟩ | ⟨g,cap,f,rfl,p,hg,r,q,l,o⟩
 ·by_cases hm:m=0
  ·subst hm;have hn:news= []:=List.eq_nil_of_length_eq_zero (by simpa using hl);subst hn;have h2:(Builtin.append_ #[t,t] ty #[.slice none 0 0, .slice (some a) 0 c]).run P w= .ok (.slice none 0 0) w:=by
    simp [Builtin.append_,run_underlying ht,sizeOf,typeInfo,hi,Builtin.lenOf,Builtin.firstCells,loadCells,loadCellsFrom]
   rw[h2] at hr;cases hr;exact .inl rfl
  ·have h2:=run_append_nil (P:=P) w t ty e i z ht hi hz a m c news hl hnews (by omega) (by omega) (by have hb:=hbytes;simp only[Nat.zero_add] at hb;omega);rw[h2] at hr;cases hr;exact .inr ⟨_,rfl,Nat.le_refl _⟩
 ·by_cases hroom:n+m≤cap
  ·have h:n *i.size+news.length≤f.size:=by rw[hl,l,←Nat.add_mul];exact Nat.mul_le_mul_right _ hroom
   have h2:=run_append_room (P:=P) w t ty e i ht hi g n cap f hg a m c news hl hnews h1 hroom h;rw[h2] at hr;cases hr;exact .inl rfl
  ·have d: ∀j u,xs[j]? =some u→w.cell? ((⟨g,0,none⟩:Addr).add j)=some u:=b.cells (g:=g) rfl;have h2:=run_append_grow (P:=P) w t ty e i z ht hi hz ⟨g,0,none⟩ n cap xs b.1 d a m c news hl hnews (by omega) (by omega) (growslice_fits (by omega) hbytes);rw[h2] at hr;cases hr;exact .inr ⟨_,rfl,Nat.le_refl _⟩
theorem X1i{P:Program}{w:World}{ops:Array Oper}{rest:List Oper}{o:Oper}{a:Act}{Q:Exit→Act→World→Prop}(hgd:o.guard=none)(s x:Operand)(t:TypeId)
 (ho:o.op= .call { callee:= .builtin .append,args:= #[s,x],argTypes:= #[t,t] })
 (base:Nat) (e:TypeId) (i:TypeInfo) (z:Value) (bytes:Nat) (ht:P.underlying t=some (.slice e)) (hi:P.info? e=some i) (hz:i.zero=some z)
 (hsize:i.size=1) (hby:i.bytes=bytes) (hzs:z.cells.size=1)
 (v:Value) (n:Nat) (xs:List Value) (hs:a.eval s=v) (hown:w.ownsRow base e 1 v n xs)
 (xv:Value) (news:List Value) (hx:a.eval x=xv) (b:Src w xv news) (h1: ∀u∈news,u.oneCell'=true)
 (h63:n+news.length≤maxLen) (hbytes:(n+news.length) *bytes≤140737488355328) (hbase:base≤w.heap.size)
 (h: ∀v' w',w'.ownsRow base e 1 v' (n+news.length) (xs++news)→w.grownBy w' v.ownBlock→Lies v' v w→wpList P ops Q rest (a.put o.dst v') w'):wpList P ops Q (o::rest) a w:=by
 rcases b with⟨rfl,rfl⟩ | ⟨ad,c,rfl,hc⟩
 ·refine wpList_append_own_none hgd s x t ho base e i 1 ht hi v n xs hs hown hx ?_;exact h v w (by simpa using hown) ⟨rfl,rfl,rfl,Nat.le_refl _,fun _ _ _=>rfl⟩ (.inl rfl)
 ·refine wpList_plain hgd fun K hK=>?_;obtain⟨v',w',hr,h2,h3,_⟩:=run_append_own (P:=P) w base t o.type e i z 1 bytes ht hi hz hsize hby hzs (by decide) v n xs hown ad news.length c news (by simp) hc h1 h63 hbytes hbase;have h4:=X7t (P:=P) w base t o.type e i z 1 bytes ht hi hz hsize hby hzs (by decide) v n xs hown ad news.length c news (by simp) hc h1 h63 hbytes hbase v' w' hr;unfold Oper.wp execOp;simp only[ho,resolve,invoke,builtin,Sem.run_bind,Sem.run_pure,Result.andThen_ok,List.map_toArray,List.map_cons,List.map_nil,hs,hx,hr];exact hK _ _ (h v' w' h2 h3 h4)
theorem X68{B:Nat}{e:TypeId}{s1 n:Nat}{u v v':Value}{xs:List Value}{w:World}(hu:w.ownsRow B e s1 u n xs)(h:u.ownBlock=none∨u.ownBlock≠v.ownBlock)(hl:Lies v' v w):u.ownBlock=none∨u.ownBlock≠v'.ownBlock:=by
 cases hk:u.ownBlock with
 | none=>exact .inl rfl
 |
  some k=>
  rw[hk] at h;refine .inr fun e'=>?_;rcases hl with h1 | ⟨j,h1,h2⟩
  ·rw[h1] at e';rcases h with h | h
   ·cases h
   ·exact h e'
  ·rw[h1] at e';have:=(World.ownsRow.lt hu k hk).2;cases e';omega
open Go.RowKit Go.Lib
theorem Xc4{w:World}{v:Value}{l:List Int}{k:Nat}{x:Value}{T:TypeId}(h:RI w v l)(hk:Blk w k #[x] T)(hx: ∀n,x≠ .int .i64 n)(u:Value):RI (w.setCell ⟨k,0,none⟩ u) v l:=by
 rcases h with h | ⟨a,c,rfl,d,h⟩
 ·exact .inl h
 ·refine .inr ⟨a,c,rfl,d,fun hl=>?_⟩;obtain⟨b,o,rfl,h1,h2⟩:=h hl;have f:b≠k:=by
   intro e;subst e;have h0:=h2 0 hl;rw[Nat.add_zero] at h0;cases o with
   |
    zero=>
    rw[X00 hk 0 x rfl] at h0;exact hx _ (by simpa using h0)
   |
    succ o=>
    unfold Blk at hk;simp [World.cell?,hk] at h0
  refine⟨b,o,rfl,by simpa using h1,fun i hi=>?_⟩;rw[World.cell?_setCell_other]
  ·exact h2 i hi
  ·intro e;exact f (congrArg Addr.block e).symm
theorem Xc5(p:Option Addr)(n c:Nat): ∀m,Value.slice p n c≠ .int .i64 m:=fun _ h=>by cases h
theorem X7z{w:World}{k:Nat}{x u:Value}{T:TypeId}(h:Blk w k #[x] T):Blk (w.setCell ⟨k,0,none⟩ u) k #[u] T:=by
 have:=heap_setCell_same w k 0 #[x] T u h;unfold Blk;simpa using this
theorem Xu4{w:World}{k j:Nat}{cs:Array Value}{u:Value}{T:TypeId}(h:Blk w k cs T)(hne:j≠k):Blk (w.setCell ⟨j,0,none⟩ u) k cs T:=by
 unfold Blk at *
 rw[heap_setCell_other w ⟨j,0,none⟩ k u (fun e=>hne e.symm)];exact h
theorem X5n{B:Nat}{va vo:Value}{q o:List Int}{wr w5:World}(ha:OwnI wr.heap.size va q w5)(ho:OwnI B vo o wr):va.ownBlock=none∨va.ownBlock≠vo.ownBlock:=by
 cases h:va.ownBlock with
 | none=>exact .inl rfl
 |
  some k=>
  refine .inr fun e=>?_;have h1:=(World.ownsRow.lt ha k h).1;have h2:=(World.ownsRow.lt ho k e.symm).2;omega
theorem X81(l a:List Int)(d:Int):Nor.runI l (a++ [d])=((Nor.putI (Nor.runI l a).1 d).1,(Nor.runI l a).2++(Nor.putI (Nor.runI l a).1 d).2):=by
 rw[Nor.X8U];simp [Nor.runI]
theorem X2B{w w1:World}{k:Nat}{cs:Array Value}{T:TypeId}{row:Option Nat}(h:Blk w k cs T)(hg:w.grownBy w1 row)(hne:some k≠row):Blk w1 k cs T:=by
 unfold Blk at *
 rw[hg.block k (X1h h) hne];exact h
theorem Xe4{B k:Nat}{v:Value}{l:List Int}{w:World}(h:OwnI B v l w)(hk:k<B):some k≠v.ownBlock:=fun e=>by
 have:=(World.ownsRow.lt h k e.symm).1;omega
theorem Xb7(a:List Int)(r:Int):Nor.X1J [] (a++ [r])=((Nor.feedI (Nor.X1J [] a).1 r).1,(Nor.X1J [] a).2++(Nor.feedI (Nor.X1J [] a).1 r).2):=by
 rw[Nor.X4f];simp [Nor.X1J]
theorem X2h{w w1:World}{a b:Addr}{u v:Value}(hb:Below w.heap.size w w1)(h:w.cell? a=some u∧w.cell? b=some v):w1.cell? a=some u∧w1.cell? b=some v:=
 ⟨by rw[hb.cell (World.block_lt_of_cell? _ _ h.1)];exact h.1,by rw[hb.cell (World.block_lt_of_cell? _ _ h.2)];exact h.2⟩
theorem Xhn{w:World}{a b p:Addr}{u v x:Value}(h:w.cell? a=some u∧w.cell? b=some v)(ha:a.block≠p.block)(hb:b.block≠p.block):(w.setCell p x).cell? a=some u∧(w.setCell p x).cell? b=some v:=by
 rw[World.cell?_setCell_other _ _ _ _ (fun e=>ha (by rw[e])),World.cell?_setCell_other _ _ _ _ (fun e=>hb (by rw[e]))];exact h
theorem X3e{w:World}{a b:Addr}{u v:Value}(h:w.cell? a=some u∧w.cell? b=some v):w.drew.cell? a=some u∧w.drew.cell? b=some v:=h
theorem X3l{w:World}{v:Value}{l:List Int}(h:RI w v l):RI w.drew v l:=h
def Mid9(T:TypeId)(wq:World)(q:List Int × List Int)(u t:Value)(wx:World):Prop:=
 ∃ (bt:Nat) (va:Value),u= .pointer (some ⟨bt,0,none⟩)∧wq.heap.size≤bt∧Blk wx bt #[va] T∧OwnI wq.heap.size va q.1 wx∧RI wx t q.2∧Below wq.heap.size wq wx
theorem XAk{T:TypeId}{wq wz:World}{q:List Int × List Int}{bt:Nat}{va t:Value}(h1:wq.heap.size≤bt)(h2:Blk wz bt #[.slice none 0 0] T)(h3:OwnI wq.heap.size va q.1 wz)(h4:va.ownBlock=none∨va.ownBlock≠some bt)(h5:RI wz t q.2)(h6:Below wq.heap.size wq wz):
 Mid9 T wq q (.pointer (some ⟨bt,0,none⟩)) t (wz.setCell ⟨bt,0,none⟩ va):=
 ⟨bt,va,rfl,h1,X7z h2,X1d h3 _ _ h4,Xc4 h5 h2 (Xc5 _ _ _) va,h6.setCell h1 _⟩
theorem Xb8{T:TypeId}{wq w2:World}{q:List Int × List Int}{va t:Value}(ha:OwnI (wq.alloc (.cells #[.slice none 0 0] T)).drew.heap.size va q.1 w2)(ht:RI w2 t q.2)(hb2:Below (wq.alloc (.cells #[.slice none 0 0] T)).drew.heap.size (wq.alloc (.cells #[.slice none 0 0] T)).drew w2):
 Mid9 T wq q (.pointer (some ⟨wq.heap.size,0,none⟩)) t (w2.setCell ⟨wq.heap.size,0,none⟩ va):=by
 have hA:Below wq.heap.size wq (wq.alloc (.cells #[.slice none 0 0] T)).drew:=((Below.refl _ _).alloc (Nat.le_refl _) _).drew;have a:wq.heap.size<(wq.alloc (.cells #[.slice none 0 0] T)).drew.heap.size:=by simp
 exact XAk (Nat.le_refl _) (X02 (w:=(wq.alloc (.cells #[.slice none 0 0] T)).drew) (X0g wq _ T) hb2) (X0w ha (Nat.le_of_lt a)) (X2S ha a) ht (hA.trans (hb2.mono hA.size))
theorem Xe5{T:TypeId}{wq w2:World}{q:List Int × List Int}{va t:Value}(ha:OwnI wq.drew.heap.size va q.1 w2)(ht:RI w2 t q.2)(hb2:Below wq.drew.heap.size wq.drew w2):
 Mid9 T wq q (.pointer (some ⟨w2.heap.size,0,none⟩)) t (w2.alloc (.cells #[va] T)):=by
 have hA:Below wq.heap.size wq w2:=(Below.refl _ _).drew.trans hb2;exact⟨w2.heap.size,va,rfl,hA.size,X0g w2 _ T,X0B ha _,X03 ht (X04 w2 _),hA.alloc hA.size _⟩
def Fed(p:List Int × List Int)(w:World)(e:Ending)(w':World):Prop:=∃va vb,e= .returned (.tuple #[.agg #[va],vb])∧OwnI w.heap.size va p.1 w'∧OwnI w.heap.size vb p.2 w'∧Below w.heap.size w w'
def Xe8:Prop:=∀ (v:Value) (l:List Int) (w:World),l.length≤10000→RI w v l→Calls Tryz.prog 75 #[.agg #[v]] w fun e w'=>e= .returned (.bool (Nor.saneB l))∧Below w.heap.size w w'
def Xe9:Prop:=∀ (v:Value) (l:List Int) (r:Int) (w:World),l.length≤10000→RI w v l→Calls Tryz.prog 110 #[.agg #[v], .int .i64 r] w (Fed (Nor.feedI l r) w)
theorem X0Z{w:World}{k:Nat}{cs:Array Value}{T:TypeId}(h:Blk w k cs T)(i:Nat)(u:Value):Blk (w.setCell ⟨k,i,none⟩ u) k (cs.setIfInBounds i u) T:=by
 have:=heap_setCell_same w k i cs T u h;unfold Blk;simpa using this
theorem X14{w:World}{k j:Nat}{cs:Array Value}{T:TypeId}(h:Blk w k cs T)(i:Nat)(u:Value)(hne:j≠k):Blk (w.setCell ⟨j,i,none⟩ u) k cs T:=by
 unfold Blk at *
 rw[heap_setCell_other w ⟨j,i,none⟩ k u (fun e=>hne e.symm)];exact h
abbrev set4(w:World)(k:Nat)(x0 x1 x2 x3:Value):World:=(((w.setCell ⟨k,0,none⟩ x0).setCell ⟨k,1,none⟩ x1).setCell ⟨k,2,none⟩ x2).setCell ⟨k,3,none⟩ x3
theorem X9b{w:World}{k:Nat}{a b c d:Value}{T:TypeId}(h:Blk w k #[a,b,c,d] T)(x0 x1 x2 x3:Value):Blk (set4 w k x0 x1 x2 x3) k #[x0,x1,x2,x3] T:=
 X0Z (X0Z (X0Z (X0Z h 0 x0) 1 x1) 2 x2) 3 x3
theorem X5V{w:World}{k j:Nat}{cs:Array Value}{T:TypeId}(h:Blk w k cs T)(x0 x1 x2 x3:Value)(hne:j≠k):Blk (set4 w j x0 x1 x2 x3) k cs T:=
 X14 (X14 (X14 (X14 h 0 x0 hne) 1 x1 hne) 2 x2 hne) 3 x3 hne
theorem X0T{n k:Nat}{w w1:World}(h:Below n w w1)(hk:n≤k)(x0 x1 x2 x3:Value):Below n w (set4 w1 k x0 x1 x2 x3):=
 (((h.setCell (p:=⟨k,0,none⟩) hk x0).setCell (p:=⟨k,1,none⟩) hk x1).setCell (p:=⟨k,2,none⟩) hk x2).setCell (p:=⟨k,3,none⟩) hk x3
theorem X0V{w:World}{k:Nat}{a b c d:Value}{T:TypeId}(h:Blk w k #[a,b,c,d] T)(x0 x1 x2 x3:Value):
 ((((w.setCell ⟨k,0,none⟩ x0).setCell ⟨k,1,none⟩ x1).setCell ⟨k,2,none⟩ x2).setCell ⟨k,3,none⟩ x3).cell? ⟨k,0,none⟩=some x0
 ∧((((w.setCell ⟨k,0,none⟩ x0).setCell ⟨k,1,none⟩ x1).setCell ⟨k,2,none⟩ x2).setCell ⟨k,3,none⟩ x3).cell? ⟨k,1,none⟩=some x1
 ∧((((w.setCell ⟨k,0,none⟩ x0).setCell ⟨k,1,none⟩ x1).setCell ⟨k,2,none⟩ x2).setCell ⟨k,3,none⟩ x3).cell? ⟨k,2,none⟩=some x2
 ∧((((w.setCell ⟨k,0,none⟩ x0).setCell ⟨k,1,none⟩ x1).setCell ⟨k,2,none⟩ x2).setCell ⟨k,3,none⟩ x3).cell? ⟨k,3,none⟩=some x3:=
 have e:=X0Z (X0Z (X0Z (X0Z h 0 x0) 1 x1) 2 x2) 3 x3
 ⟨X00 e 0 x0 rfl,X00 e 1 x1 rfl,X00 e 2 x2 rfl,X00 e 3 x3 rfl⟩
theorem X2w(r:Int)(w:World):
 Calls Tryz.prog 207 #[.int .i64 r] w fun e w'=>e= .returned (.bool (Dec.goodB r))∧w=w':=by
 by_cases h0:0≤r
 ·by_cases h1:r≤1114111
  ·by_cases h2:r<55296;all_goals
    go_enter Tryz.func207,Tryz.ntmps207;go_wp2;go_ret;exact⟨X0p (by unfold Dec.goodB;grind),rfl⟩
  ·go_enter Tryz.func207,Tryz.ntmps207;go_wp2;go_ret;exact⟨X0p (by unfold Dec.goodB;grind),rfl⟩
 ·go_enter Tryz.func207,Tryz.ntmps207;go_wp2;go_ret;exact⟨X0p (by unfold Dec.goodB;grind),rfl⟩
end Go.Proofs.YtkofnpkopbnocaaGreatDoor
