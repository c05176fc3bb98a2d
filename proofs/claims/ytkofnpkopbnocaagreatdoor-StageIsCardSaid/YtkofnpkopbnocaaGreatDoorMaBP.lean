import Derived.Test.YtkofnpkopbnocaaGreatDoorMaSk
import Derived.Test.YtkofnpkopbnocaaGreatDoorBasP
import Derived.Deep.RegionHeld3
import Derived.Test.YtkofnpkopbnocaaGreatDoorKP
import Derived.WalkKit
import Derived.OrdersHeld
import Derived.Deep.RegionHeld
import Derived.Deep.DeepCutAuto
import Derived.Deep.LoopGhost
set_option linter.unusedSimpArgs false
set_option linter.unusedVariables false
set_option maxRecDepth 100000
set_option maxHeartbeats 3200000
namespace Go.Proofs.YtkofnpkopbnocaaGreatDoor
open Go.RowKit Go.Lib
open Mch (MS)
def set9(w:World)(k:Nat)(x0 x1 x2 x3 x4 x5 x6 x7 x8:Value):World:=(((((((((w.setCell ⟨k,0,none⟩ x0).setCell ⟨k,1,none⟩ x1).setCell ⟨k,2,none⟩ x2).setCell ⟨k,3,none⟩ x3).setCell ⟨k,4,none⟩ x4).setCell ⟨k,5,none⟩ x5).setCell ⟨k,6,none⟩ x6).setCell ⟨k,7,none⟩ x7).setCell ⟨k,8,none⟩ x8)
theorem X2n(w:World)(k:Nat)(x0 x1 x2 x3 x4 x5 x6 x7 x8:Value)(j:Nat)(h:j≠k):(set9 w k x0 x1 x2 x3 x4 x5 x6 x7 x8).heap[j]? =w.heap[j]? :=by
 unfold set9;simp only[Below.heap_setCell _ _ _ _ (show j≠(⟨k,_,none⟩:Addr).block from h)]
theorem XdM(w:World)(k:Nat)(x0 x1 x2 x3 x4 x5 x6 x7 x8:Value):(set9 w k x0 x1 x2 x3 x4 x5 x6 x7 x8).heap.size=w.heap.size:=by
 unfold set9;simp [World.setCell]
def XdO(J:Nat→Prop)(w w1:World):Prop:=w.heap.size≤w1.heap.size∧∀j,j<w.heap.size→¬J j→w1.heap[j]? =w.heap[j]?
theorem X9Z(w:World)(k:Nat)(x0 x1 x2 x3 x4 x5 x6 x7 x8:Value):XdO (fun j=>j=k) w (set9 w k x0 x1 x2 x3 x4 x5 x6 x7 x8):=⟨by rw[XdM];exact Nat.le_refl _,fun j _ h=>X2n w k x0 x1 x2 x3 x4 x5 x6 x7 x8 j h⟩
theorem XdP{J:Nat→Prop}{w w1:World}{v:Value}{l:List Int}(h:RI w v l)(hs:XdO J w w1)(ho: ∀j,J j→OffV j v):RI w1 v l:=by
 rcases h with h | ⟨a,c,rfl,d,h⟩
 ·exact .inl h
 ·refine .inr ⟨a,c,rfl,d,fun hl=>?_⟩;obtain⟨b,o,rfl,h1,h2⟩:=h hl;have hb: ¬J b:=fun hJ=>by
   obtain⟨a',c',e⟩:=ho b hJ rfl;injection e with _ e2 _;omega
  refine⟨b,o,rfl,Nat.lt_of_lt_of_le h1 hs.1,fun i hi=>?_⟩;exact(World.cell?_of_block (w:=w) (a:=⟨b,o+i,none⟩) (hs.2 b h1 hb)).trans (h2 i hi)
theorem Xnl{w:World}{v:Value}{l:List Int}{j:Nat}(h:RI w v l)(hj:w.heap.size≤j):OffV j v:=by
 intro e;rcases h with⟨rfl,_⟩ | ⟨a,c,rfl,d,h⟩
 ·cases e
 ·by_cases hl:0<l.length
  ·obtain⟨b,o,rfl,h1,_⟩:=h hl;cases e;exact absurd (show b<w.heap.size from h1) (Nat.not_lt.2 hj)
  ·exact⟨some a,c,by rw[show l.length=0 by omega]⟩
theorem Xa0(j:Nat)(m:MS)(vn vg vc:Value):OffM j (mchV m vn vg vc)↔OffV j vn∧OffV j vg∧OffV j vc:=by
 unfold OffM mchV;constructor
 ·intro h;have h1:=h _ rfl;exact⟨h1 vn (by simp),h1 vg (by simp),h1 vc (by simp)⟩
 ·rintro ⟨h1,h2,h3⟩ cs e u hu;cases e;simp only[List.mem_cons,List.not_mem_nil,or_false] at hu;rcases hu with rfl | rfl | rfl | rfl | rfl | rfl | rfl | rfl | rfl;all_goals first | assumption | exact fun e=>by cases e
theorem XfD{J:Nat→Prop}{w w1:World}{v:Value}{m:MS}(h:RM w v m)(hs:XdO J w w1)(ho: ∀j,J j→OffM j v):RM w1 v m:=by
 obtain⟨vn,vg,vc,rfl,h1,h2,h3⟩:=h;have a:=fun j hj=>(Xa0 j m vn vg vc).1 (ho j hj);exact⟨vn,vg,vc,rfl,XdP h1 hs fun j hj=>(a j hj).1,XdP h2 hs fun j hj=>(a j hj).2.1,XdP h3 hs fun j hj=>(a j hj).2.2⟩
theorem Xnm{w:World}{v:Value}{m:MS}{j:Nat}(h:RM w v m)(hj:w.heap.size≤j):OffM j v:=by
 obtain⟨vn,vg,vc,rfl,h1,h2,h3⟩:=h;exact(Xa0 j m vn vg vc).2 ⟨Xnl h1 hj,Xnl h2 hj,Xnl h3 hj⟩
theorem X3a{w:World}{k:Nat}{cs:Array Value}{T:TypeId}(h:Blk w k cs T)(i:Nat)(u:Value):Blk (w.setCell ⟨k,i,none⟩ u) k (cs.setIfInBounds i u) T:=by
 have:=heap_setCell_same w k i cs T u h;unfold Blk;simpa using this
theorem X2g{w:World}{k:Nat}{z0 z1 z2 z3 z4 z5 z6 z7 z8:Value}{T:TypeId}(h:Blk w k #[z0,z1,z2,z3,z4,z5,z6,z7,z8] T)(x0 x1 x2 x3 x4 x5 x6 x7 x8:Value):Blk (set9 w k x0 x1 x2 x3 x4 x5 x6 x7 x8) k #[x0,x1,x2,x3,x4,x5,x6,x7,x8] T:=by
 have h1:Blk (w.setCell ⟨k,0,none⟩ x0) k #[x0,z1,z2,z3,z4,z5,z6,z7,z8] T:=by simpa using X3a h 0 x0
 have h2:Blk ((w.setCell ⟨k,0,none⟩ x0).setCell ⟨k,1,none⟩ x1) k #[x0,x1,z2,z3,z4,z5,z6,z7,z8] T:=by simpa using X3a h1 1 x1
 have h3:Blk (((w.setCell ⟨k,0,none⟩ x0).setCell ⟨k,1,none⟩ x1).setCell ⟨k,2,none⟩ x2) k #[x0,x1,x2,z3,z4,z5,z6,z7,z8] T:=by simpa using X3a h2 2 x2
 have h4:Blk ((((w.setCell ⟨k,0,none⟩ x0).setCell ⟨k,1,none⟩ x1).setCell ⟨k,2,none⟩ x2).setCell ⟨k,3,none⟩ x3) k #[x0,x1,x2,x3,z4,z5,z6,z7,z8] T:=by simpa using X3a h3 3 x3
 have h5:Blk (((((w.setCell ⟨k,0,none⟩ x0).setCell ⟨k,1,none⟩ x1).setCell ⟨k,2,none⟩ x2).setCell ⟨k,3,none⟩ x3).setCell ⟨k,4,none⟩ x4) k #[x0,x1,x2,x3,x4,z5,z6,z7,z8] T:=by simpa using X3a h4 4 x4
 have h6:Blk ((((((w.setCell ⟨k,0,none⟩ x0).setCell ⟨k,1,none⟩ x1).setCell ⟨k,2,none⟩ x2).setCell ⟨k,3,none⟩ x3).setCell ⟨k,4,none⟩ x4).setCell ⟨k,5,none⟩ x5) k #[x0,x1,x2,x3,x4,x5,z6,z7,z8] T:=by simpa using X3a h5 5 x5
 have h7:Blk (((((((w.setCell ⟨k,0,none⟩ x0).setCell ⟨k,1,none⟩ x1).setCell ⟨k,2,none⟩ x2).setCell ⟨k,3,none⟩ x3).setCell ⟨k,4,none⟩ x4).setCell ⟨k,5,none⟩ x5).setCell ⟨k,6,none⟩ x6) k #[x0,x1,x2,x3,x4,x5,x6,z7,z8] T:=by simpa using X3a h6 6 x6
 have h8:Blk ((((((((w.setCell ⟨k,0,none⟩ x0).setCell ⟨k,1,none⟩ x1).setCell ⟨k,2,none⟩ x2).setCell ⟨k,3,none⟩ x3).setCell ⟨k,4,none⟩ x4).setCell ⟨k,5,none⟩ x5).setCell ⟨k,6,none⟩ x6).setCell ⟨k,7,none⟩ x7) k #[x0,x1,x2,x3,x4,x5,x6,x7,z8] T:=by simpa using X3a h7 7 x7
 have h9:Blk (((((((((w.setCell ⟨k,0,none⟩ x0).setCell ⟨k,1,none⟩ x1).setCell ⟨k,2,none⟩ x2).setCell ⟨k,3,none⟩ x3).setCell ⟨k,4,none⟩ x4).setCell ⟨k,5,none⟩ x5).setCell ⟨k,6,none⟩ x6).setCell ⟨k,7,none⟩ x7).setCell ⟨k,8,none⟩ x8) k #[x0,x1,x2,x3,x4,x5,x6,x7,x8] T:=by simpa using X3a h8 8 x8
 exact h9
theorem X4w{B:Nat}{w0 w:World}(h:Below B w0 w){k:Nat}(hk:B≤k)(x0 x1 x2 x3 x4 x5 x6 x7 x8:Value):Below B w0 (set9 w k x0 x1 x2 x3 x4 x5 x6 x7 x8):=by
 unfold set9;exact(Below.setCell (Below.setCell (Below.setCell (Below.setCell (Below.setCell (Below.setCell (Below.setCell (Below.setCell (Below.setCell h (p:=⟨k,0,none⟩) hk x0) (p:=⟨k,1,none⟩) hk x1) (p:=⟨k,2,none⟩) hk x2) (p:=⟨k,3,none⟩) hk x3) (p:=⟨k,4,none⟩) hk x4) (p:=⟨k,5,none⟩) hk x5) (p:=⟨k,6,none⟩) hk x6) (p:=⟨k,7,none⟩) hk x7) (p:=⟨k,8,none⟩) hk x8)
abbrev nilV:Value:= .slice none 0 0
abbrev bare9(k:Int):Array Value:= #[.int .i64 k, .string ⟨#[]⟩, .slice none 0 0, .slice none 0 0, .bool false, .int .i64 0, .bool false, .bool false, .slice none 0 0]
theorem held9{w:World}{k:Nat}{x0 x1 x2 x3 x4 x5 x6 x7 x8:Value}{T:TypeId}(h:Blk w k #[x0,x1,x2,x3,x4,x5,x6,x7,x8] T):w.cell? ⟨k,0,none⟩=some x0∧w.cell? ⟨k,1,none⟩=some x1∧w.cell? ⟨k,2,none⟩=some x2∧w.cell? ⟨k,3,none⟩=some x3∧w.cell? ⟨k,4,none⟩=some x4∧w.cell? ⟨k,5,none⟩=some x5∧w.cell? ⟨k,6,none⟩=some x6∧w.cell? ⟨k,7,none⟩=some x7∧w.cell? ⟨k,8,none⟩=some x8:=
 ⟨X00 h 0 _ rfl,X00 h 1 _ rfl,X00 h 2 _ rfl,X00 h 3 _ rfl,X00 h 4 _ rfl,X00 h 5 _ rfl,X00 h 6 _ rfl,X00 h 7 _ rfl,X00 h 8 _ rfl⟩
theorem X58(k:Int)(w:World):Calls Tryz.prog 50 #[.int .i64 k] w fun e w'=>e= .returned (.agg (bare9 (if 0≤k∧k≤4 then k else 0)))∧Below w.heap.size w w':=by
 have a:=X0g w (bare9 0) 32;have b:=hid (X04 w (.cells (bare9 0) 32));obtain⟨W,hW⟩: ∃W,w.alloc (.cells (bare9 0) 32)=W:=⟨_,rfl⟩;rw[hW] at a b;obtain⟨c0,c1,c2,c3,c4,c5,c6,c7,c8⟩:=held9 a;have f0:=X06 a 0;have f1:=X06 a 1;have f2:=X06 a 2;have f3:=X06 a 3;have f4:=X06 a 4;have f5:=X06 a 5;have f6:=X06 a 6;have f7:=X06 a 7;have f8:=X06 a 8;replace a:=hid a;replace hW:=hid hW;by_cases h:0≤k∧k≤4
 ·rw[if_pos h];obtain⟨h1,h2⟩:=h;have t1: ¬k<0:=by omega
  have t2: ¬4<k:=by omega
  go_enter Tryz.func50,Tryz.ntmps50;go_upto_region 1 with(fail);rw[hW.out];go_wp2_with fail;all_goals
   have n5:=X2g a.out (.int .i64 k) (.string ⟨#[]⟩) nilV nilV (.bool false) (.int .i64 0) (.bool false) (.bool false) nilV;unfold set9 at n5;obtain⟨d0,d1,d2,d3,d4,d5,d6,d7,d8⟩:=held9 n5;refine bodyPost_ret (v:= .agg (bare9 k)) ?_ rfl ⟨rfl,?_⟩
   ·simp [results,Tryz.results50,go_sem,d0,d1,d2,d3,d4,d5,d6,d7,d8]
   ·have:=X4w b.out (Nat.le_refl w.heap.size) (.int .i64 k) (.string ⟨#[]⟩) nilV nilV (.bool false) (.int .i64 0) (.bool false) (.bool false) nilV;unfold set9 at this;exact this
 ·rw[if_neg h];have t1:k<0∨(¬k<0∧4<k):=by omega
  rcases t1 with t1 | ⟨t1,t2⟩;all_goals
   go_enter Tryz.func50,Tryz.ntmps50;go_upto_region 1 with(fail);rw[hW.out];go_wp2_with fail;have n5:=X2g a.out (.int .i64 0) (.string ⟨#[]⟩) nilV nilV (.bool false) (.int .i64 0) (.bool false) (.bool false) nilV;unfold set9 at n5;obtain⟨d0,d1,d2,d3,d4,d5,d6,d7,d8⟩:=held9 n5;refine bodyPost_ret (v:= .agg (bare9 0)) ?_ rfl ⟨rfl,?_⟩
   ·simp [results,Tryz.results50,go_sem,d0,d1,d2,d3,d4,d5,d6,d7,d8]
   ·have:=X4w b.out (Nat.le_refl w.heap.size) (.int .i64 0) (.string ⟨#[]⟩) nilV nilV (.bool false) (.int .i64 0) (.bool false) (.bool false) nilV;unfold set9 at this;exact this
theorem XAb(c:List Int)(h:c≠ []):Mch.cutOf c=c++ [-1]:=by
 unfold Mch.cutOf;rw[if_neg h]
theorem XfF(v:Value)(c:List Int)(w:World)(hl:c.length≤1000)(hv:RI w v c):Calls Tryz.prog 72 #[v] w (Makes (Mch.cutOf c) w):=by
 obtain⟨i0,hi,h,i,j⟩:=info_parts X2p;obtain⟨p,cap,rfl⟩:=X0b hv;by_cases hc:c= []
 ·subst hc;replace hv:=hid hv;rw[show Mch.cutOf []= [] from rfl];go_enter Tryz.func72,Tryz.ntmps72;go_wp2_with fail;go_ret;exact⟨_,rfl,X0O _ _,Below.refl _ _⟩
 ·rw[XAb c hc];have d:c.length≠0:=fun e=>hc (List.eq_nil_of_length_eq_zero e);have ht: ¬((c.length:Int)=0):=by omega
  replace d:=hid d;replace hc:=hid hc;have o1:=hid (X0H w.heap.size w [] #[] w.heap.size 0 rfl (Nat.le_refl _) rfl rfl (by unfold maxLen;omega));have s1:=hid (X0Y (X03 hv (X04 w (.cells #[] 3))));have b1:=hid (X04 w (.cells #[] 3));replace hv:=hid hv;go_enter Tryz.func72,Tryz.ntmps72
  go_wp2_with (first | (at_builtin;refine X0c rfl _ _ 24 rfl w.heap.size 3 i0 (.int .i64 0) 8 Tryz.underlying24 hi h i j rfl _ _ _ rfl o1.out _ _ rfl s1.out (X0u _) (by simp only[List.length_map,List.length_append,List.length_take,List.length_drop,List.length_cons,List.length_nil,List.length_singleton];unfold maxLen;omega) (by simp only[List.length_map,List.length_append,List.length_take,List.length_drop,List.length_cons,List.length_nil,List.length_singleton];omega) b1.out.size ?_;intro v2 w2 f a;have o2:=hid (X0i (l:=c) f (by(try simp);try omega) (by(try simp);try omega));have b2:=hid (X0k b1.out a b1.out.size o1.out (Nat.le_refl _));obtain⟨p2,c2,rfl⟩:=X0b (X0a o2.out);have o3:=hid (X0B o2.out (.cells #[.int .i64 (-1)] 3));have s3:=hid (X0Y (X0a (X0H w2.heap.size w2 [-1] #[.int .i64 (-1)] w2.heap.size 1 rfl (Nat.le_refl _) rfl rfl (by unfold maxLen;omega))));have b3:=hid (b2.out.alloc b2.out.size (.cells #[.int .i64 (-1)] 3));clear f a) | (at_builtin;refine X0c rfl _ _ 24 rfl w.heap.size 3 i0 (.int .i64 0) 8 Tryz.underlying24 hi h i j rfl _ _ _ rfl o3.out _ _ rfl s3.out (X0u _) (by simp only[List.length_map,List.length_append,List.length_take,List.length_drop,List.length_cons,List.length_nil,List.length_singleton];unfold maxLen;omega) (by simp only[List.length_map,List.length_append,List.length_take,List.length_drop,List.length_cons,List.length_nil,List.length_singleton];omega) b3.out.size ?_;intro v4 w4 g b;have o4:=hid (X0i (l:=c++ [-1]) g (by(try simp);try omega) (by(try simp);try omega));have b4:=hid (X0k b3.out b b3.out.size o3.out (Nat.le_refl _));clear g b))
  go_ret;exact⟨_,rfl,o4.out,b4.out⟩
theorem XpA(b:List UInt8)(k:Nat)(h:k<b.length):Mch.X0M (b.take (k+1))=Mch.X0M (b.take k)++ [(b[k].toNat:Int)]:=by
 unfold Mch.X0M;rw[List.take_succ_eq_append_getElem h,List.map_append];rfl
theorem Xjo(v:Value)(l:List UInt8)(w:World)(hl:l.length≤100000)(hv:X0v w v l):Calls Tryz.prog 125 #[v] w (Makes (Mch.X0M l) w):=by
 obtain⟨i0,hi,m,n,q⟩:=info_parts X2p;obtain⟨p,cap,rfl⟩:=X0o hv;replace hv:=hid hv;go_enter Tryz.func125,Tryz.ntmps125;go_wp2_with fail;go_loopg [3,4] l.length (fun g vo vi wr=>∃k:Nat,k≤l.length∧vi= .int .i64 k∧g=l.length - k∧OwnI w.heap.size vo (Mch.X0M (l.take k)) wr∧Below w.heap.size w wr)
 case atStart=>exact⟨0,Nat.zero_le _,rfl,rfl,X0O _ _,Below.refl _ _⟩
 case round=>
  obtain⟨k,hk,rfl,rfl,c,a⟩:=hrel;have j:(Mch.X0M (l.take k)).length=k:=by unfold Mch.X0M;simp;omega
  by_cases hlt:k<l.length
  ·have h:(k:Int)<(l.length:Int):=by omega
   obtain⟨b,off,rfl,hb,d⟩:=X1B hv.out (by omega);have hc:=(a.cell hb).trans (d k hlt);have e:=XpA l k hlt;obtain⟨x,hx⟩: ∃x,l[k]=x:=⟨_,rfl⟩;rw[hx] at hc e;obtain⟨o,ho⟩: ∃o,Mch.X0M (l.take k)=o:=⟨_,rfl⟩;rw[ho] at c j e;have r:wrap64 (x.toNat:Int)=(x.toNat:Int):=by have:=x.toNat_lt;unfold wrap64;omega
   have o1:=hid (X0B c (.cells #[.int .i64 (x.toNat:Int)] 3));have s1:=hid (X0Y (X0a (X0H wr.heap.size wr [(x.toNat:Int)] #[.int .i64 (x.toNat:Int)] wr.heap.size 1 rfl (Nat.le_refl _) rfl rfl (by unfold maxLen;omega))));have b1:=hid (a.alloc a.size (.cells #[.int .i64 (x.toNat:Int)] 3));replace e:=hid e;replace ho:=hid ho;replace c:=hid c;replace a:=hid a;clear d hx
   go_wp2_with (at_builtin;refine X0c rfl _ _ 24 rfl w.heap.size 3 i0 (.int .i64 0) 8 Tryz.underlying24 hi m n q rfl _ _ _ rfl o1.out _ _ rfl s1.out (X0u _) (by simp only[List.length_map,List.length_append,List.length_take,List.length_drop,List.length_cons,List.length_nil,List.length_singleton];unfold maxLen;omega) (by simp only[List.length_map,List.length_append,List.length_take,List.length_drop,List.length_cons,List.length_nil,List.length_singleton];omega) b1.out.size ?_;intro v2 w2 i f;have o2:=hid (X0i (l:=o++ [(x.toNat:Int)]) i (by(try simp);try omega) (by(try simp);try omega));have b2:=hid (X0k b1.out f b1.out.size o1.out (Nat.le_refl _));clear i f)
   go_roundg (l.length - (k+1))
   case measure=>omega
   case rel=>exact⟨k+1,by omega,by go_num,rfl,by rw[e.out];exact o2.out,b2.out⟩
  ·obtain rfl:k=l.length:=by omega
   have h:decide ((l.length:Int)<(l.length:Int))=false:=by simp
   rw[List.take_length] at c;replace c:=hid c;replace a:=hid a;go_wp2_with fail;go_ret;exact⟨_,rfl,c.out,a.out⟩
theorem XdH{B j:Nat}{v:Value}{l:List Int}{w:World}(h:OwnI B v l w)(hj:j<B):OffV j v:=fun e=>by
 have:=XzW h j e;omega
theorem X6E(j:Nat):OffV j (.slice none 0 0):=fun e=>by cases e
theorem Xc0{B k:Nat}{v:Value}{l:List Int}{w:World}{cs:Array Value}{T:TypeId}(h:OwnI B v l w)(hb:Blk w k cs T)(hT:T≠3:=by decide):v.ownBlock≠some k:=by
 intro e;rcases h.2 with⟨rfl,_⟩ | ⟨g,cap,a,rfl,_,hg,_⟩
 ·cases e
 ·cases e;unfold Blk at hb;rw[hb] at hg;injection hg with hg;injection hg with _ hg;exact absurd hg hT
theorem XA8{B k:Nat}{v:Value}{l:List Int}{w w1:World}(h:OwnI B v l w)(hs:XdO (fun j=>j=k) w w1)(hne:v.ownBlock≠some k):OwnI B v l w1:=by
 refine⟨h.1,?_⟩;rcases h.2 with hn | ⟨g,cap,a,rfl,hg,hh,r⟩
 ·exact .inl hn
 ·refine .inr ⟨g,cap,a,rfl,hg,?_,r⟩;rw[hs.2 g (Array.getElem?_eq_some_iff.1 hh).1 (fun e=>hne (by rw[e.symm];rfl))];exact hh
theorem X6F{v vn vg vc vt:Value}{q:MS × List Int}{w W:World}{k:Nat}{z0 z1 z2 z3 z4 z5 z6 z7 z8:Value}{T:TypeId}(hr:Blk W k #[z0,z1,z2,z3,z4,z5,z6,z7,z8] T)(hk:w.heap.size≤k)
 (hn:OwnI w.heap.size vn q.1.n W) (hg:OwnI w.heap.size vg q.1.g W) (hc:OwnI w.heap.size vc q.1.c W) (ht:OwnI w.heap.size vt q.2 W) (hb:Below w.heap.size w W) (hT:T≠3:=by decide):
 FedM v q w (.returned (.tuple #[mchV q.1 vn vg vc,vt])) (set9 W k (.int .i64 q.1.kind) (strV q.1.d) vn vg (.bool q.1.s.on) (.int .i64 q.1.s.kind) (.bool q.1.s.pict) (.bool q.1.s.odd) vc):=by
 have hs:=X9Z W k (.int .i64 q.1.kind) (strV q.1.d) vn vg (.bool q.1.s.on) (.int .i64 q.1.s.kind) (.bool q.1.s.pict) (.bool q.1.s.odd) vc;have go:=fun(u:Value) (l:List Int) (h:OwnI w.heap.size u l W)=>XA8 h hs (Xc0 h hr hT);exact⟨_,_,rfl,⟨vn,vg,vc,rfl,X0a (go _ _ hn),X0a (go _ _ hg),X0a (go _ _ hc)⟩,X0a (go _ _ ht),fun j hj _=>⟨(Xa0 j q.1 vn vg vc).2 ⟨XdH hn hj,XdH hg hj,XdH hc hj⟩,XdH ht hj⟩,X4w hb hk _ _ _ _ _ _ _ _ _⟩
theorem Xxm{v vn vg vc:Value}{m:MS}{w W:World}{k:Nat}{z0 z1 z2 z3 z4 z5 z6 z7 z8:Value}{T:TypeId}(hr:Blk W k #[z0,z1,z2,z3,z4,z5,z6,z7,z8] T)(hk:w.heap.size≤k)(hv:v=mchV m vn vg vc)(hm:RM w v m)(hb:Below w.heap.size w W):
 FedM v (m,[]) w (.returned (.tuple #[mchV m vn vg vc, .slice none 0 0])) (set9 W k (.int .i64 m.kind) (strV m.d) vn vg (.bool m.s.on) (.int .i64 m.s.kind) (.bool m.s.pict) (.bool m.s.odd) vc):=by
 have a:=X4w hb hk (.int .i64 m.kind) (strV m.d) vn vg (.bool m.s.on) (.int .i64 m.s.kind) (.bool m.s.pict) (.bool m.s.odd) vc;subst hv;exact⟨_,_,rfl,X0d hm a, .inl ⟨rfl,rfl⟩,fun j _ h=>⟨h,X6E j⟩,a⟩
def At15(w:World)(k:Nat)(v u:Value):Prop:=(∀j,j<w.heap.size→OffM j v→OffV j u)∧OffV k u
theorem XdI{w W:World}{k:Nat}{v u:Value}{l:List Int}{cs:Array Value}{T:TypeId}(h:OwnI w.heap.size u l W)(hk:Blk W k cs T)(hT:T≠3:=by decide):At15 w k v u:=
 ⟨fun j hj _=>XdH h hj,fun e=>absurd e (Xc0 h hk hT)⟩
theorem X6V(w:World)(k:Nat)(v:Value):At15 w k v (.slice none 0 0):=⟨fun j _ _=>X6E j,X6E k⟩
theorem XCj{w:World}{k:Nat}{v u:Value}{m:MS}(h: ∀j,OffM j v→OffV j u)(hm:RM w v m)(hk:w.heap.size≤k):At15 w k v u:=⟨fun j _ h'=>h j h',h k (Xnm hm hk)⟩
theorem Xhb{v vn vg vc vt:Value}{q:MS × List Int}{w W:World}{k:Nat}{z0 z1 z2 z3 z4 z5 z6 z7 z8:Value}{T:TypeId}(hr:Blk W k #[z0,z1,z2,z3,z4,z5,z6,z7,z8] T)(hk:w.heap.size≤k)
 (hn:RI W vn q.1.n∧At15 w k v vn) (hg:RI W vg q.1.g∧At15 w k v vg) (hc:RI W vc q.1.c∧At15 w k v vc) (ht:RI W vt q.2∧At15 w k v vt) (hb:Below w.heap.size w W):
 FedM v q w (.returned (.tuple #[mchV q.1 vn vg vc,vt])) (set9 W k (.int .i64 q.1.kind) (strV q.1.d) vn vg (.bool q.1.s.on) (.int .i64 q.1.s.kind) (.bool q.1.s.pict) (.bool q.1.s.odd) vc):=by
 have hs:=X9Z W k (.int .i64 q.1.kind) (strV q.1.d) vn vg (.bool q.1.s.on) (.int .i64 q.1.s.kind) (.bool q.1.s.pict) (.bool q.1.s.odd) vc;have go:=fun(u:Value) (l:List Int) (h:RI W u l∧At15 w k v u)=>XdP h.1 hs (fun j e=>e ▸ h.2.2);exact⟨_,_,rfl,⟨vn,vg,vc,rfl,go _ _ hn,go _ _ hg,go _ _ hc⟩,go _ _ ht,fun j hj hv=>⟨(Xa0 j q.1 vn vg vc).2 ⟨hn.2.1 j hj hv,hg.2.1 j hj hv,hc.2.1 j hj hv⟩,ht.2.1 j hj hv⟩,X4w hb hk _ _ _ _ _ _ _ _ _⟩
theorem X52{w:World}{k j:Nat}{cs:Array Value}{T:TypeId}(h:Blk w j cs T)(hj:j≠k)(x0 x1 x2 x3 x4 x5 x6 x7 x8:Value):Blk (set9 w k x0 x1 x2 x3 x4 x5 x6 x7 x8) j cs T:=(X2n w k x0 x1 x2 x3 x4 x5 x6 x7 x8 j hj).trans h
theorem Xhc{w:World}{k:Nat}{a b c d e:Value}{T:TypeId}(h:Blk w k #[a,b,c,d,e] T):w.cell? ⟨k,0,none⟩=some a∧w.cell? ⟨k,1,none⟩=some b∧w.cell? ⟨k,2,none⟩=some c∧w.cell? ⟨k,3,none⟩=some d∧w.cell? ⟨k,4,none⟩=some e:=
 ⟨X00 h 0 _ rfl,X00 h 1 _ rfl,X00 h 2 _ rfl,X00 h 3 _ rfl,X00 h 4 _ rfl⟩
theorem X3w(w:World):RI w (.slice none 0 0) []:= .inl ⟨rfl,rfl⟩
theorem X8O(x:Int):IntKind.u8.wrap (x % 256)=((Mch.X2G x).toNat:Int):=by
 unfold Mch.X2G;have h0:0≤x % 256:=Int.emod_nonneg _ (by decide);have h1:x % 256<256:=Int.emod_lt_of_pos _ (by decide);have e:(UInt8.ofNat (x % 256).toNat).toNat=(x % 256).toNat:=by
  rw[UInt8.toNat_ofNat'];exact Nat.mod_eq_of_lt (by omega)
 rw[e];have hw:IntKind.u8.wrap (x % 256)=x % 256:=by
  have:IntKind.u8.wrap (x % 256)=(x % 256) % 256:=by rfl
  rw[this];omega
 rw[hw];omega
theorem XAa(x:Int):IntKind.u8.wrap x=((Mch.X2G x).toNat:Int):=by
 rw[←X8O x]
 show x % 256=(x % 256) % 256
 omega
theorem Mch.Xb7(m:MS)(l:List Int)(x:Int):Mch.X0N m (l++ [x])=((Mch.feedM (Mch.X0N m l).1 x).1,(Mch.X0N m l).2++(Mch.feedM (Mch.X0N m l).1 x).2):=by
 rw[Mch.X4f];simp [Mch.X0N]
theorem Mch.Xqx(k:Int)(l:List Int):Mch.saneM (Mch.X0N (Mch.newM k) l).1=true:=by
 have: ∀ (l:List Int) (m:MS),Mch.saneM m=true→Mch.saneM (Mch.X0N m l).1=true:=by
  intro l
  induction l with
  | nil=>exact fun m h=>h
  | cons x t ih=>exact fun m h=>ih _ (Mch.X3G m x).1
 exact this l _ (Mch.X6H k)
theorem Xhd{w:World}{v:Value}{m:MS}(h:RM w v m):RM w.drew v m:=h
theorem XdJ{w:World}(h:Tabs w):Tabs w.drew:=tabs_next h (Below.refl _ _).drew
end Go.Proofs.YtkofnpkopbnocaaGreatDoor
