import Derived.Test.YtkofnpkopbnocaaGreatDoorTk
import Derived.Test.YtkofnpkopbnocaaGreatDoorMthP
import Derived.Test.YtkofnpkopbnocaaGreatDoorBasP
import Derived.Laws.OwnMore
import Derived.Test.YtkofnpkopbnocaaGreatDoorSwP
import Derived.Deep.DeepCutAuto
import Derived.Deep.RegionHeld3
import Derived.WalkKit
import Derived.Test.YtkofnpkopbnocaaGreatDoorShelf
import Derived.Deep.RegionHeld
import Derived.OrdersHeld
import Derived.Test.YtkofnpkopbnocaaGreatDoorPrP
import Derived.Laws.MakeOwn
import Derived.Test.YtkofnpkopbnocaaGreatDoorPaP
set_option linter.unusedSimpArgs false
set_option linter.unusedVariables false
set_option maxRecDepth 100000
set_option maxHeartbeats 6400000
namespace Go.Proofs.YtkofnpkopbnocaaGreatDoor
open Go.RowKit Go.Lib
namespace Can
open Prp (mrkB cccI)
open Par (joinI)
theorem Xil(f:Int→Option Int)(A B:List Int)(h: ∀x∈A,mrkB x=true):putR f (A++B)=(putR f B).map (A++ ·):=by
 induction A with
 | nil=>simp
 |
  cons x t ih=>
  rw[List.cons_append,putR,if_pos (h x (List.mem_cons_self ..)),ih fun y hy=>h y (List.mem_cons_of_mem _ hy)];cases putR f B <;> simp
theorem XrR(m:List Int)(k:Nat)(hk:k<m.length):m.reverse=(m.drop (k+1)).reverse++(m[k]::(m.take k).reverse):=by
 have e:m=m.take k++m[k]::m.drop (k+1):=by
  rw[List.getElem_cons_drop];exact(List.take_append_drop k m).symm
 conv=>lhs;rw[e]
 rw[List.reverse_append,List.reverse_cons,List.append_assoc];rfl
theorem Xzw(f:Int→Option Int)(m:List Int)(k:Nat)(hk:k<m.length)(hm:mrkB m[k]=false)(h: ∀j (hj:j<m.length),k<j→mrkB m[j]=true):
 putR f m.reverse=(f m[k]).map fun v=>(m.set k v).reverse:=by
 rw[XrR m k hk,Xil]
 ·rw[putR,if_neg (by rw[hm];simp)];cases f m[k] with
  | none=>rfl
  |
   some v=>
   have hs:(m.set k v).reverse=(m.drop (k+1)).reverse++(v::(m.take k).reverse):=by
    rw[XrR (m.set k v) k (by simpa using hk),List.getElem_set_self,List.drop_set_of_lt (by omega),List.take_set_of_le (by omega)]
   show some ((m.drop (k+1)).reverse++(v::(m.take k).reverse))=some (m.set k v).reverse
   rw[hs]
 ·intro x hx;rw[List.mem_reverse] at hx;obtain⟨j,hj,rfl⟩:=List.mem_iff_getElem.1 hx;rw[List.length_drop] at hj;rw[List.getElem_drop];exact h _ (by omega) (by omega)
theorem XrS(f:Int→Option Int)(R:List Int)(h: ∀x∈R,mrkB x=true):putR f R=none:=by
 have:=Xil f R [] h;rw[List.append_nil] at this;rw[this];rfl
theorem XcK(m:List Int)(r:Int)(h: ∀j (hj:j<m.length),mrkB m[j]=true):cstep m.reverse r=r::m.reverse:=by
 unfold cstep
 split
 ·rfl
 ·rw[XrS]
  ·rfl
  ·intro x hx;rw[List.mem_reverse] at hx;obtain⟨j,hj,rfl⟩:=List.mem_iff_getElem.1 hx;exact h j hj
theorem Xf9(m:List Int)(L:Nat)(hL:m.length=L+1)(r:Int):X2F r m.reverse=(mrkB (m[L]'(by omega)) && decide (cccI r≤cccI (m[L]'(by omega)))):=by
 rw[XrR m L (by omega)];rw[List.drop_of_length_le (by omega)];rfl
theorem Xl4(m:List Int)(L:Nat)(hL:m.length=L+1)(r:Int)(h1:mrkB (m[L]'(by omega))=true)(h2:cccI r≤cccI (m[L]'(by omega))):cstep m.reverse r=r::m.reverse:=by
 unfold cstep;rw[if_pos (by rw[Xf9 m L hL,h1,decide_eq_true h2];rfl)]
theorem Xov(m:List Int)(L:Nat)(hL:m.length=L+1)(r:Int)(k:Nat)(hk:k<m.length)(hm:mrkB m[k]=false)(h: ∀j (hj:j<m.length),k<j→mrkB m[j]=true)
 (hb: ¬(mrkB (m[L]'(by omega))=true∧cccI r≤cccI (m[L]'(by omega)))):cstep m.reverse r=match joinI m[k] r with | some v=>(m.set k v).reverse | none=>r::m.reverse:=by
 unfold cstep;have a:X2F r m.reverse=false:=by
  rw[Xf9 m L hL];simp only[Bool.and_eq_false_imp,decide_eq_false_iff_not];exact fun h1 h2=>hb ⟨h1,h2⟩
 rw[if_neg (by rw[a];simp),Xzw _ m k hk hm h];cases joinI m[k] r <;> rfl
theorem Xim(l:List Int)(x:Int):X0s (l++ [x])=(cstep (X0s l).reverse x).reverse:=by
 unfold X0s;rw[X5c,List.reverse_reverse];rfl
end Can
theorem Xow{B g cap n:Nat}{l:List Int}{w:World}(h:OwnI B (.slice (some ⟨g,0,none⟩) n cap) l w)(hn:n=l.length)(k:Nat)(v:Int):
 OwnI B (.slice (some ⟨g,0,none⟩) n cap) (l.set k v) (w.setCell ⟨g,k,none⟩ (.int .i64 v)):=by
 subst hn;have h2:=(World.ownsRow.stored h k (.int .i64 v)).1;have e:(X3d l).set k (.int .i64 v)=X3d (l.set k v):=by simp
 rw[e] at h2;exact X0i h2 (by simp) rfl
open Go.Shelf Go.RowKit Go.Lib Go.Sort
open Stb
def Gr(w w':World):Prop:=∃q os,w'=grow (w.drewN q) os
theorem Xzk(w:World):Gr w w:=⟨0,#[],by rw[grow_empty];rfl⟩
theorem Xgo{w w':World}(h:Gr w w')(o:Obj):Gr w (w'.alloc o):=by
 obtain⟨q,os,rfl⟩:=h;exact⟨q,os++ #[o],by rw[alloc_eq_grow,grow_grow]⟩
theorem Xwk{w w':World}(h:Gr w w')(n:Nat):Gr w (w'.drewN n):=by
 obtain⟨q,os,rfl⟩:=h;exact⟨q+n,os,by show _=grow ((w.drewN (q+n))) os;rw[←World.drewN_drewN];rfl⟩
theorem Xzl{w w':World}(h:Gr w w'):Gr w w'.drew:=Xwk h 1
def cfE(x y:El):Int:=if Lib.compareInt x.2.1 y.2.1=0 then Lib.compareInt x.2.2.1 y.2.2.1 else Lib.compareInt x.2.1 y.2.1
theorem Xyx(x y:El):cfE x y<0↔KL x y:=by
 unfold cfE Lib.compareInt KL
 (repeat' split) <;> omega
theorem XBK(a b:Int)(k:Nat)(w:World)(h0:w.cell? ⟨k,0,none⟩=some (.int .i64 a))(h1:w.cell? ⟨k,1,none⟩=some (.int .i64 b)):
 Calls Tryz.prog 164 #[.slice (some ⟨k,0,none⟩) 2 2] w fun e w'=>e= .returned (.int .i64 (if a=0 then b else a))∧w'=w:=by
 go_enter Tryz.func164,Tryz.ntmps164;go_wp2_with fail;go_loopg [5,8] 2 (fun g v5 v8 wr=>∃j:Nat,v8= .int .i64 j∧j≤2∧g=2 - j∧wr=w∧(1≤j→a=0)∧(2≤j→b=0))
 case atStart=>exact⟨0,rfl,by omega,rfl,rfl,fun h=>by omega,fun h=>by omega⟩
 case round=>
  obtain⟨j,rfl,hj,rfl,rfl,ha,hb⟩:=hrel;rcases (show j=0∨j=1∨j=2 by omega) with rfl | rfl | rfl
  ·by_cases hz:a=0
   ·subst hz;go_wp2_with fail;go_roundg 1
    case measure=>omega
    case rel=>exact⟨1,rfl,by omega,rfl,rfl,fun _=>(by first | rfl | trivial),fun h=>by omega⟩
   ·have c:(a != 0)=true:=by simpa using hz
    clear ha hb;go_wp2_with fail;go_ret;simp [hz]
  ·obtain rfl:=ha (by omega);by_cases hz:b=0
   ·subst hz;go_wp2_with fail;go_roundg 0
    case measure=>omega
    case rel=>exact⟨2,rfl,by omega,rfl,rfl,fun _=>(by first | rfl | trivial),fun _=>(by first | rfl | trivial)⟩
   ·have c:(b != 0)=true:=by simpa using hz
    clear ha hb;go_wp2_with fail;go_ret;simp
  ·obtain rfl:=ha (by omega);obtain rfl:=hb (by omega);clear ha hb;go_wp2_with fail;go_ret;simp
theorem Xf0(a b:Int)(w:World):Calls Tryz.prog 165 #[.int .i64 a, .int .i64 b] w fun e w'=>e= .returned (.int .i64 (Lib.compareInt a b))∧w=w':=
 (Tryz.cmp_Compare_int a b w).mono fun _ _ h=>⟨h.1,h.2.symm⟩
theorem Xwl{B:Nat}{a b c d:Value}{w w':World}(h:w.cell? ⟨B,1,none⟩=some a∧w.cell? ⟨B,2,none⟩=some b∧w.cell? ⟨B+1,1,none⟩=some c∧w.cell? ⟨B+1,2,none⟩=some d)(hb:Below w.heap.size w.drew w')(hB:B+1<w.heap.size):
 w'.cell? ⟨B,1,none⟩=some a∧w'.cell? ⟨B,2,none⟩=some b∧w'.cell? ⟨B+1,1,none⟩=some c∧w'.cell? ⟨B+1,2,none⟩=some d:=
 ⟨by rw[hb.cell (show B<w.heap.size by omega)];exact h.1,by rw[hb.cell (show B<w.heap.size by omega)];exact h.2.1,by rw[hb.cell hB];exact h.2.2.1,by rw[hb.cell hB];exact h.2.2.2⟩
theorem XrC(x y:El)(w:World):Calls Tryz.prog 132 #[.agg #[.int .i64 x.1, .int .i64 x.2.1, .int .i64 x.2.2.1], .agg #[.int .i64 y.1, .int .i64 y.2.1, .int .i64 y.2.2.1]] w fun e w'=>e= .returned (.int .i64 (cfE x y))∧∃q m,w'=grow (w.drewN q) m:=by
 unfold cfE;obtain⟨x1,x2,x3,x4⟩:=x;obtain⟨y1,y2,y3,y4⟩:=y;dsimp only
 have g:=X0l (X0g w #[.int .i64 x1, .int .i64 x2, .int .i64 x3] 157) (.cells #[.int .i64 y1, .int .i64 y2, .int .i64 y3] 157);have b:=X0g (w.alloc (.cells #[.int .i64 x1, .int .i64 x2, .int .i64 x3] 157)) #[.int .i64 y1, .int .i64 y2, .int .i64 y3] 157;rw[show (w.alloc (.cells #[.int .i64 x1, .int .i64 x2, .int .i64 x3] 157)).heap.size=w.heap.size+1 by simp] at b;have hg:=hid (Xgo (Xgo (Xzk w) (.cells #[.int .i64 x1, .int .i64 x2, .int .i64 x3] 157)) (.cells #[.int .i64 y1, .int .i64 y2, .int .i64 y3] 157))
 have a:=hid (show _=some (Value.int .i64 x2)∧_=some (Value.int .i64 x3)∧_=some (Value.int .i64 y2)∧_=some (Value.int .i64 y3) from⟨X00 g 1 _ rfl,X00 g 2 _ rfl,X00 b 1 _ rfl,X00 b 2 _ rfl⟩);have l:((w.alloc (.cells #[.int .i64 x1, .int .i64 x2, .int .i64 x3] 157)).alloc (.cells #[.int .i64 y1, .int .i64 y2, .int .i64 y3] 157)).heap.size=w.heap.size+2:=by simp
 have h:=hid (fun W=>Xf0 x2 y2 W);have i:=hid (fun W=>Xf0 x3 y3 W);obtain⟨r1,j⟩: ∃r,Lib.compareInt x2 y2=r:=⟨_,rfl⟩;obtain⟨r2,k⟩: ∃r,Lib.compareInt x3 y3=r:=⟨_,rfl⟩;rw[j] at h ⊢;rw[k] at i ⊢;obtain⟨r,hr⟩: ∃r,(if r1=0 then r2 else r1)=r:=⟨_,rfl⟩;rw[hr];replace hr:=hid hr;clear g b j k;have f:=hid l;clear l;go_enter Tryz.func132,Tryz.ntmps132;go_upto_region 1 with(fail);generalize (w.alloc (.cells #[.int .i64 x1, .int .i64 x2, .int .i64 x3] 157)).alloc (.cells #[.int .i64 y1, .int .i64 y2, .int .i64 y3] 157)=w1 at hg a f ⊢
 refine wp_region_held_drew (S:=fun w'=>w'.cell? ⟨w.heap.size,1,none⟩=some (.int .i64 x2)∧w'.cell? ⟨w.heap.size,2,none⟩=some (.int .i64 x3)∧w'.cell? ⟨w.heap.size+1,1,none⟩=some (.int .i64 y2)∧w'.cell? ⟨w.heap.size+1,2,none⟩=some (.int .i64 y3)) (by kernel_rfl) (a.out) (fun hS=>?_);refine' tk 0 rfl hS ?_;try simp only[putA]
 refine' tk 1 rfl hS ?_;try simp only[putA]
 refine' tk 2 rfl hS ?_;try simp only[putA]
 refine' tk 3 rfl hS ?_;try simp only[putA]
 refine' tk 5 rfl hS ?_;try simp only[putA]
 refine' tk 6 rfl hS ?_;try simp only[putA]
 refine' tk 7 rfl hS ?_;try simp only[putA]
 refine' tk 8 rfl hS ?_;try simp only[putA]
 refine rdy 4 rfl fun K hK=>?_;go_simp;go_at_call 165;refine(h.out _).mono ?_;rintro e w2 ⟨rfl,rfl⟩;go_wp2_with fail;refine hK.out _ _ (a.out) (fun hSn=>?_);clear hS;have hS:=hSn;clear hSn;clear hK K;try simp only[putA]
 refine rdy 9 rfl fun K hK=>?_;go_simp;go_at_call 165;refine(i.out _).mono ?_;rintro e w2 ⟨rfl,rfl⟩;go_wp2_with fail;refine hK.out _ _ (a.out) (fun hSn=>?_);clear hS;have hS:=hSn;clear hSn;clear hK K;try simp only[putA]
 have d:=hid (Xwl (w':=w1.drew.alloc (.cells #[.int .i64 r1, .int .i64 r2] 3)) (w:=w1) a.out ((X04 w1.drew _)) (by have:=f.out;omega));refine rdy 10 rfl fun K hK=>?_;go_simp;go_wp2_with fail;refine hK.out _ _ (d.out) (fun hSn=>?_);clear hS;have hS:=hSn;clear hSn;clear hK K;try simp only[putA]
 have c:=XBK r1 r2 w1.heap.size (w1.drew.alloc (.cells #[.int .i64 r1, .int .i64 r2] 3)) (X00 (X0g w1.drew _ _) 0 _ rfl) (X00 (X0g w1.drew _ _) 1 _ rfl);rw[hr.out] at c;replace c:=hid c;refine rdy 11 rfl fun K hK=>?_;go_simp;go_at_call 164;refine c.out.mono ?_;rintro e w2 ⟨rfl,rfl⟩;go_wp2_with fail;refine hK.out _ _ (d.out) (fun hSn=>?_);clear hS;have hS:=hSn;clear hSn;clear hK K;try simp only[putA]
 refine' tk 12 rfl hS ?_;try simp only[putA]
 refine wpAnyH_done (by kernel_rfl) ?_ _;go_simp;go_wp2_with fail;go_ret;exact⟨rfl,Xgo (Xzl hg.out) _⟩
theorem prg:Prg Tryz.prog 3 where
 mixed:=by kernel_rfl
 t0:=Tryz.underlying0
 a0:=Tryz.isAgg0
 z0:=Tryz.sizeOf0
 v0:=Tryz.zeroValue0
 t3:=Tryz.underlying3
 a3:=Tryz.isAgg3
 z3:=Tryz.sizeOf3
 v3:=Tryz.zeroValue3
 t4:=Tryz.underlying4
 a4:=Tryz.isAgg4
 z4:=Tryz.sizeOf4
 v4:=Tryz.zeroValue4
 tU:=Tryz.underlying186
 tS:=Tryz.underlying155
 aS:=Tryz.isAgg155
 zS:=Tryz.sizeOf155
 vS:=Tryz.zeroValue155
 tF:=Tryz.underlying159
 aF:=Tryz.isAgg159
 zF:=Tryz.sizeOf159
 vF:=Tryz.zeroValue159
 aE:=Tryz.isAgg157
 zE:=Tryz.sizeOf157
def encP(x:El):List Value:= [.int .i64 x.1, .int .i64 x.2.1, .int .i64 x.2.2.1]
theorem XmN(x:El):(encP x).length=3:=rfl
theorem XmO(x:El): ∀v∈encP x,v.oneCell'=true:=by
 intro v hv;simp only[encP,List.mem_cons,List.not_mem_nil,or_false] at hv;rcases hv with rfl | rfl | rfl <;> rfl
theorem XmP(blk off size:Nat)(w:World):CmpLays Tryz.prog 132 #[] encP 3 cfE blk off size w:=fun _ _ _ _ x y=>XrC x y _
theorem Xf1: ∀args w,(callFunc 132 args).run Tryz.prog w= .ok (.enter 132 args) w:=enters_of Tryz.func132 (by kernel_rfl) rfl
theorem Xia{B blk:Nat}{d:Array El}{w w':World}(h:SWK encP 3 w blk 0 d w')(hB:B≤blk)(hb:blk<w.heap.size):Below B w w':=by
 obtain⟨n,os,rfl⟩:=h;unfold sortWorldK putRowK putRow mapBlock grow;refine⟨rfl,rfl,rfl,by simp [Sort.ahead],fun i hi=>?_⟩
 show ((Array.modify w.heap blk _)++os)[i]? =_
 rw[Array.getElem?_append_left (by simp;omega),Array.getElem?_modify,if_neg (by omega)]
def downP(d:Array El):Bool:=(List.range (d.size - 1)).all fun i=> !decide (KL d[i+1]! d[i]!)
theorem Xib{P:Program}{k:Nat}(L:Prg P k)(F:P.funcs[130]? =some Tryz.f130)
 (enc:El→List Value) (cf:El→El→Int) (hk: ∀x y,cf x y<0↔KL x y) (g:Nat) (cb:Array Value) (blk off cap:Nat) (d:Array El) (w0:World)
 (eg: ∀args w,(callFunc g args).run P w= .ok (.enter g args) w) (hcmp:CmpLays P g cb enc k cf blk off d.size w0) (R:RP enc k w0 blk off d) (hsz:d.size≤1000000):
 Calls P 130 #[.slice (some ⟨blk,off,none⟩) d.size cap, .func (.func g) #[] cb] w0 fun e w'=>
  e= .returned (.bool (downP d))∧SP enc k w0 blk off d w':=by
 have mixed:=L.mixed;have t0:=L.t0;have a0:=L.a0;have z0:=L.z0;have v0:=L.v0;have t3:=L.t3;have a3:=L.a3;have z3:=L.z3;have v3:=L.v3;have t4:=L.t4;have a4:=L.a4;have z4:=L.z4;have v4:=L.v4;have tU:=L.tU;have tS:=L.tS;have aS:=L.aS;have zS:=L.zS;have vS:=L.vS;have tF:=L.tF;have aF:=L.aF;have zF:=L.zF;have vF:=L.vF;have aE:=L.aE;have zE:=L.zE;have S0:Aside (SP enc k w0 blk off d w0):=SWK.start R.hH;have HC:Aside _:=hcmp;have HK:Aside _:=hk;have HT:Aside ((∀j:Nat,0≤j→j+1<d.size→¬KL d[j+1]! d[j]!)→downP d=true):=fun h=>by
  unfold downP;rw[List.all_eq_true];intro j hj;have A:=List.mem_range.1 hj;simpa using h j (Nat.zero_le _) (by omega)
 have HF:Aside (∀j:Nat,j+1<d.size→KL d[j+1]! d[j]! →downP d=false):=fun j hj h=>by
  unfold downP;rw[List.all_eq_false];exact⟨j,List.mem_range.2 (by omega),by simpa using h⟩
 obtain⟨B,hB⟩: ∃B,downP d=B:=⟨_,rfl⟩;rw[hB];rw[hB] at HT HF;clear hcmp hk hB;go_enter F,Tryz.ntmps130;clear L F;go_wp2;go_loopg [5] (d.size+1) (fun gg v wr=>∃i:Int,v= .int .i64 i∧i<d.size∧ -1≤i∧i<gg∧Aside (SP enc k w0 blk off d wr)∧Aside (∀j:Nat,i≤j→j+1<d.size→¬KL d[j+1]! d[j]!))
 case atStart=>exact⟨(d.size:Int) - 1,rfl,by omega,by omega,by omega,S0,fun j h1 h2=>by omega⟩
 case round=>
  clear S0;obtain⟨i,rfl,z,u,hg,S1,V1⟩:=hrel;by_cases hlt:0<i
  ·obtain⟨j,rfl⟩: ∃j:Nat,i=(j:Int)+1:=⟨(i - 1).toNat,by omega⟩;have o:j+1<d.size:=by omega
   have c:decide ((j:Int)+1 > 0)=true:=decide_eq_true (by omega);by_cases hq:KL d[j+1]! d[j]!
   ·have HQ:Aside _:=HF.out j o hq;have m:((j:Int)+1).toNat=j+1:=by omega
    have p:(0:Int)≤(j:Int)+1:=by omega
    have f:(j:Int)+1<(d.size:Int):=by omega
    have r:IntKind.i64.wrap ((j:Int)+1)=(j:Int)+1:=by rw[IntKind.wrap_i64];omega
    have n:((j:Int)).toNat=j:=by omega
    have q:(0:Int)≤(j:Int):=by omega
    have l:(j:Int)<(d.size:Int):=by omega
    have s:IntKind.i64.wrap ((j:Int))=(j:Int):=by rw[IntKind.wrap_i64];omega
    obtain⟨xa,a⟩: ∃zz,zz=d[j+1]! :=⟨_,rfl⟩;obtain⟨xb,b⟩: ∃zz,zz=d[j]! :=⟨_,rfl⟩;have l1:=S1.out.ld R (by omega) P (j+1) (by omega);have l2:=S1.out.ld R (by omega) P (j) (by omega);rw[←a] at l1;rw[←b] at l2;have hc:=S1.out.cmp HC.out (by omega) xa xb;have hv:cf xa xb<0:=by rw[a,b];exact(HK.out _ _).2 hq
    have hd:decide (cf xa xb<0)=true:=decide_eq_true hv;clear a b;go_wp2_with fail
    go_quiet_grown (first | (go_at_fn g;refine Calls.grown_of (hc _ _)))
    have S2:Aside (SP enc k w0 blk off d (grow (wr.drewN nq) osq)):=S1.out.grown nq osq;clear l1 l2 hc S1;generalize grow (wr.drewN nq) osq=w2 at S2 ⊢;clear nq osq;clear hq;go_wp2;go_ret;rw[HQ.out];exact⟨rfl,S2.out⟩
   ·have HQ:Aside (¬KL d[j+1]! d[j]!):=hq;have m:((j:Int)+1).toNat=j+1:=by omega
    have p:(0:Int)≤(j:Int)+1:=by omega
    have f:(j:Int)+1<(d.size:Int):=by omega
    have r:IntKind.i64.wrap ((j:Int)+1)=(j:Int)+1:=by rw[IntKind.wrap_i64];omega
    have n:((j:Int)).toNat=j:=by omega
    have q:(0:Int)≤(j:Int):=by omega
    have l:(j:Int)<(d.size:Int):=by omega
    have s:IntKind.i64.wrap ((j:Int))=(j:Int):=by rw[IntKind.wrap_i64];omega
    obtain⟨xa,a⟩: ∃zz,zz=d[j+1]! :=⟨_,rfl⟩;obtain⟨xb,b⟩: ∃zz,zz=d[j]! :=⟨_,rfl⟩;have l1:=S1.out.ld R (by omega) P (j+1) (by omega);have l2:=S1.out.ld R (by omega) P (j) (by omega);rw[←a] at l1;rw[←b] at l2;have hc:=S1.out.cmp HC.out (by omega) xa xb;have hv: ¬cf xa xb<0:=by rw[a,b];exact fun h=>hq ((HK.out _ _).1 h)
    have hd:decide (cf xa xb<0)=false:=decide_eq_false hv;clear a b;go_wp2_with fail
    go_quiet_grown (first | (go_at_fn g;refine Calls.grown_of (hc _ _)))
    have S2:Aside (SP enc k w0 blk off d (grow (wr.drewN nq) osq)):=S1.out.grown nq osq;clear l1 l2 hc S1;generalize grow (wr.drewN nq) osq=w2 at S2 ⊢;clear nq osq;clear hq;go_wp2;go_roundg (j+1)
    case measure=>omega
    case rel=>
     refine⟨(j:Int),by first | rfl | go_num | (congr 1;omega),by omega,by omega,by omega,S2,fun t ht h=>?_⟩;rcases (show t=j∨j+1≤t by omega) with rfl | h2
     ·exact HQ.out
     ·exact V1.out t (by omega) h
  ·have c:decide (i > 0)=false:=decide_eq_false hlt;have HQ:Aside _:=HT.out (fun j _ h=>V1.out j (by omega) h);go_wp2;go_ret;rw[HQ.out];exact⟨rfl,S1.out⟩
theorem Xic(blk cap:Nat)(d:Array El)(w:World)(hH:HoldsK encP 3 w blk 0 d)(hb:blk<w.heap.size)(hsz:d.size≤1000000):
 Calls Tryz.prog 130 #[.slice (some ⟨blk,0,none⟩) d.size cap, .func (.func 132) #[] #[]] w fun e w'=>
  e= .returned (.bool (downP d))∧Below blk w w':=by
 refine(Xib prg Tryz.func130 encP cfE Xyx 132 #[] blk 0 cap d w Xf1 (XmP blk 0 d.size w) ⟨XmN,XmO,hH,hb⟩ hsz).mono ?_;rintro e w' ⟨rfl,S⟩;exact⟨rfl,Xia S (Nat.le_refl _) hb⟩
theorem X7O{w:World}{k:Nat}{cs:Array Value}{T:TypeId}(h:Blk w k cs T)(i:Nat)(u:Value):Blk (w.setCell ⟨k,i,none⟩ u) k (cs.setIfInBounds i u) T:=by
 have:=heap_setCell_same w k i cs T u h;unfold Blk;simpa using this
def rowAt(l:List Int)(k:Nat):Int:=cnt (X4y (l.take k) [])
theorem Xom(l:List Int):rowAt l 0=0:=rfl
theorem X7P(l:List Int)(k:Nat)(h:k<l.length):rowAt l (k+1)=rowAt l k+(if Prp.cccI l[k]=0 then 1 else 0):=by
 unfold rowAt;rw[List.take_succ_eq_append_getElem h,Xkp];unfold stepE;rw[X5K];dsimp only
 omega
theorem Xid(l:List Int): ∀k,k≤l.length→0≤rowAt l k∧rowAt l k≤k
 | 0,_=>by rw[Xom];omega
 |
  k+1,h=>by
  have:=Xid l k (by omega);rw[X7P l k (by omega)]
  split <;> omega
theorem Xie(l:List Int)(r:Int):X93 (l++ [r])=X93 l++ [(r,cnt (X4y l [])+(if Prp.cccI r=0 then 1 else 0),Prp.cccI r,l.length)]:=by
 unfold X93;rw[Xkp];unfold stepE;rw[List.reverse_cons,show (X4y l []).length=l.length by simp [XeB]]
theorem XkT(l:List Int)(k:Nat)(h:k<l.length):X93 (l.take (k+1))=X93 (l.take k)++ [(l[k],rowAt l (k+1),Prp.cccI l[k],k)]:=by
 rw[List.take_succ_eq_append_getElem h,Xie,X7P l k h,List.length_take,Nat.min_eq_left (by omega)];rfl
def partP(l:List Int)(k:Nat):Array El:=(X93 (l.take k)++List.replicate (l.length - k) default).toArray
theorem XaF(l:List Int)(k:Nat)(h:k≤l.length):(partP l k).size=l.length:=by simp [partP,XeC];omega
theorem XaG(l:List Int)(k:Nat)(h:k<l.length):(partP l k).setIfInBounds k (l[k],rowAt l (k+1),Prp.cccI l[k],k)=partP l (k+1):=by
 unfold partP;rw[XkT l k h,List.setIfInBounds_toArray,show l.length - k=(l.length - (k+1))+1 by omega,List.replicate_succ,List.set_append_right _ _ (by simp [XeC];omega)]
 congr 1
 rw[show k - (X93 (l.take k)).length=0 by simp [XeC];omega];simp
theorem XaH(l:List Int):partP l l.length=(X93 l).toArray:=by simp [partP]
theorem Xwm(d:Array El)(k:Nat)(hk:k<d.size)(x:El):
 (((flatK encP 3 d).setIfInBounds (k *3) (.int .i64 x.1)).setIfInBounds (k *3+1) (.int .i64 x.2.1)).setIfInBounds (k *3+2) (.int .i64 x.2.2.1)=flatK encP 3 (d.setIfInBounds k x):=by
 refine ext_get! (by simp) fun t ht=>?_;have b:t<d.size *3:=by simpa using ht
 rw[get_flatK _ _ _ _ (by simpa using b)];have hg: ∀i,i<d.size→(d.setIfInBounds k x)[i]! =if i=k then x else d[i]! :=fun i hi=>by
  by_cases e:i=k
  ·subst e;rw[if_pos rfl,getElem!_set_same _ _ _ hi]
  ·rw[if_neg e,Array.getElem!_eq_getD,Array.getD_eq_getD_getElem?,Array.getElem?_setIfInBounds,if_neg (fun h=>e h.symm),Array.getElem!_eq_getD,Array.getD_eq_getD_getElem?]
 rw[hg (t / 3) (by omega)];have base:(flatK encP 3 d)[t]! =(encP d[t / 3]!)[t % 3]! :=get_flatK _ _ _ _ b;have a: ∀ (F:Array Value) (i:Nat) (v:Value),i<F.size→(F.setIfInBounds i v)[t]! =if t=i then v else F[t]! :=fun F i v hi=>by
  by_cases e:t=i
  ·subst e;rw[if_pos rfl,getElem!_set_same _ _ _ hi]
  ·rw[if_neg e,Array.getElem!_eq_getD,Array.getD_eq_getD_getElem?,Array.getElem?_setIfInBounds,if_neg (fun h=>e h.symm),Array.getElem!_eq_getD,Array.getD_eq_getD_getElem?]
 rw[a _ _ _ (by simp;omega),a _ _ _ (by simp;omega),a _ _ _ (by simp;omega),base];by_cases e:t / 3=k
 ·rw[if_pos e];rcases (show t=k *3∨t=k *3+1∨t=k *3+2 by omega) with h | h | h
  ·rw[if_neg (by omega),if_neg (by omega),if_pos h,show t % 3=0 by omega];rfl
  ·rw[if_neg (by omega),if_pos h,show t % 3=1 by omega];rfl
  ·rw[if_pos h,show t % 3=2 by omega];rfl
 ·rw[if_neg e,if_neg (by omega),if_neg (by omega),if_neg (by omega)]
theorem XBL:(Tryz.prog.info? 157).map (fun i=>(i.zero,i.size,i.bytes))=some (some (.agg #[.int .i64 0, .int .i64 0, .int .i64 0]),3,24):=by kernel_rfl
theorem XkU(n:Nat):madeCells (Value.agg #[.int .i64 0, .int .i64 0, .int .i64 0]).cells (n *3)=flatK encP 3 (Array.replicate n default):=by
 refine ext_get! (by simp [size_madeCells]) fun t ht=>?_;have a:t<n *3:=by simpa [size_madeCells] using ht
 rw[get_flatK _ _ _ _ (by simpa using a)];unfold madeCells;rw[getElem!_pos _ t (by simpa using a)];simp only[Array.getElem_map,Array.getElem_range,Value.cells,List.size_toArray,List.length_cons,List.length_nil];rw[show (Array.replicate n (default:El))[t / 3]! =default by rw[getElem!_pos _ _ (by simp;omega)];simp];rcases (show t % 3=0∨t % 3=1∨t % 3=2 by omega) with h | h | h <;> rw[h] <;> rfl
theorem XkV(n:Nat)(hn:n≤1000000)(W:World):(Instr.makeSlice 155 (.int .i64 (n:Int)) (.int .i64 (n:Int))).run Tryz.prog W= .ok (.slice (some ⟨W.heap.size,0,none⟩) n n) (W.alloc (.cells (flatK encP 3 (Array.replicate n default)) 157)):=by
 obtain⟨i0,hi,h⟩:=Option.map_eq_some_iff.1 XBL;simp only[Prod.mk.injEq] at h;have hr:=run_make (P:=Tryz.prog) W 155 157 i0 _ Tryz.underlying155 hi h.1 .i64 .i64 (n:Int) (n:Int) (by omega) (Int.le_refl _) (by rw[h.2.2];omega) (by omega);rw[Int.toNat_natCast,h.2.1,XkU] at hr;exact hr
theorem Xif{w:World}{b:Nat}{d:Array El}{T:TypeId}(h:Blk w b (flatK encP 3 d) T):HoldsK encP 3 w b 0 d:=fun j hj=>by
 rw[Nat.zero_add];exact⟨X00 h j _ (by rw[getElem!_pos _ j hj];exact Array.getElem?_eq_getElem hj),X06 h j⟩
def XrD(l:List Int)(w:World)(e:Ending)(w':World):Prop:=∃b,e= .returned (.slice (some ⟨b,0,none⟩) l.length l.length)∧w.heap.size≤b∧b<w'.heap.size∧HoldsK encP 3 w' b 0 (X93 l).toArray∧Below w.heap.size w w'
theorem Xyy{w:World}{b:Nat}{F:Array Value}{T:TypeId}(h:Blk w b F T)(s:Nat)(x y z:Value)(hs:s+2<F.size):
 w.cell? ⟨b,s,none⟩=some F[s]! ∧w.frozen? ⟨b,s,none⟩=false∧(w.setCell ⟨b,s,none⟩ x).cell? ⟨b,s+1,none⟩=some F[s+1]! ∧(w.setCell ⟨b,s,none⟩ x).frozen? ⟨b,s+1,none⟩=false∧
 ((w.setCell ⟨b,s,none⟩ x).setCell ⟨b,s+1,none⟩ y).cell? ⟨b,s+2,none⟩=some F[s+2]! ∧((w.setCell ⟨b,s,none⟩ x).setCell ⟨b,s+1,none⟩ y).frozen? ⟨b,s+2,none⟩=false∧
 Blk (((w.setCell ⟨b,s,none⟩ x).setCell ⟨b,s+1,none⟩ y).setCell ⟨b,s+2,none⟩ z) b (((F.setIfInBounds s x).setIfInBounds (s+1) y).setIfInBounds (s+2) z) T:=by
 have h1:=X7O h s x;have h2:=X7O h1 (s+1) y;have h3:=X7O h2 (s+2) z;have g: ∀i,i<F.size→F[i]? =some F[i]! :=fun i hi=>by rw[getElem!_pos F i hi];exact Array.getElem?_eq_getElem hi
 refine⟨X00 h s _ (g s (by omega)),X06 h _,X00 h1 (s+1) _ ?_,X06 h1 _,X00 h2 (s+2) _ ?_,X06 h2 _,h3⟩
 ·rw[Array.getElem?_setIfInBounds,if_neg (by omega)];exact g _ (by omega)
 ·rw[Array.getElem?_setIfInBounds,if_neg (by omega),Array.getElem?_setIfInBounds,if_neg (by omega)];exact g _ (by omega)
theorem Xf2(v:Value)(l:List Int)(w:World)(hl:l.length≤1000000)(hv:RI w v l):Calls Tryz.prog 131 #[v] w (XrD l w):=by
 obtain⟨p,cap,rfl⟩:=X0b hv;have u:=XkV l.length hl;replace hv:=hid hv;go_enter Tryz.func131,Tryz.ntmps131;go_wp2_with fail;go_loopg [4,5,6,7,13] l.length (fun g v4 v5 v6 v7 A wr=>∃k:Nat,k≤l.length∧A= .int .i64 k∧g=l.length - k∧v4= .int .i64 (rowAt l k)∧Blk wr w.heap.size (flatK encP 3 (partP l k)) 157∧Below w.heap.size w wr)
 case atStart=>exact⟨0,Nat.zero_le _,rfl,rfl,rfl,by have:=X0g w (flatK encP 3 (Array.replicate l.length default)) 157;rwa [show Array.replicate l.length default=partP l 0 by simp [partP,X93,X4y]] at this,X04 w _⟩
 case round=>
  obtain⟨k,hk,rfl,rfl,rfl,a,d⟩:=hrel;by_cases hlt:k<l.length
  ·have t:(k:Int)<(l.length:Int):=by omega
   obtain⟨b,off,rfl,hb,o⟩:=ri_at (X03 hv.out d) (by omega);have hc:=o k hlt;have z:=Xid l k hk;have h:=X7P l k hlt;have q:=XaG l k hlt;have y:=XaF l k hk;obtain⟨x,hx⟩: ∃x,l[k]=x:=⟨_,rfl⟩;rw[hx] at hc h q;obtain⟨c,s⟩: ∃c,Prp.cccI x=c:=⟨_,rfl⟩;have i:=fun W=>Xek x W;rw[s] at i h q;obtain⟨R,hR⟩: ∃R,rowAt l k=R:=⟨_,rfl⟩;rw[hR] at z h ⊢;obtain⟨R1,n⟩: ∃R1,rowAt l (k+1)=R1:=⟨_,rfl⟩;rw[n] at h q;have m:=Xwm (partP l k) k (by omega) (x,R1,c,k);rw[q] at m;have hF:k *3+2<(flatK encP 3 (partP l k)).size:=by rw[size_flatK,y];omega
   obtain⟨F,r⟩: ∃F,flatK encP 3 (partP l k)=F:=⟨_,rfl⟩;rw[r] at m hF a;replace m:=hid m;replace hF:=hid hF;replace a:=hid a;replace d:=hid d;replace i:=hid i;replace n:=hid n;clear o hx s hR u q y r;by_cases hz:c=0
   ·subst hz;rw[if_pos rfl] at h;have B:R+1=R1:=h.symm;clear h;go_wp2_with (go_at_call 163;refine(i.out _).mono ?_;rintro e w2 ⟨rfl,f⟩;obtain⟨c0,z0,c1,z1,c2,z2,j⟩:=Xyy (X02 a.out f) (k *3) (.int .i64 x) (.int .i64 R1) (.int .i64 0) hF.out;replace j:=hid j;replace f:=hid (X05 d.out f));go_roundg (l.length - (k+1))
    case measure=>omega
    case rel=>exact⟨k+1,by omega,by go_num,rfl,by rw[n.out],by rw[←m.out];exact j.out,((f.out.setCell (p:=⟨_,_,none⟩) (Nat.le_refl _) _).setCell (p:=⟨_,_,none⟩) (Nat.le_refl _) _).setCell (p:=⟨_,_,none⟩) (Nat.le_refl _) _⟩
   ·have C:(c == 0)=false:=beq_eq_false_iff_ne.2 hz;rw[if_neg hz,Int.add_zero] at h;subst h;clear hz;go_wp2_with (go_at_call 163;refine(i.out _).mono ?_;rintro e w2 ⟨rfl,f⟩;obtain⟨c0,z0,c1,z1,c2,z2,j⟩:=Xyy (X02 a.out f) (k *3) (.int .i64 x) (.int .i64 R1) (.int .i64 c) hF.out;replace j:=hid j;replace f:=hid (X05 d.out f));go_roundg (l.length - (k+1))
    case measure=>omega
    case rel=>exact⟨k+1,by omega,by go_num,rfl,by rw[n.out],by rw[←m.out];exact j.out,((f.out.setCell (p:=⟨_,_,none⟩) (Nat.le_refl _) _).setCell (p:=⟨_,_,none⟩) (Nat.le_refl _) _).setCell (p:=⟨_,_,none⟩) (Nat.le_refl _) _⟩
  ·obtain rfl:k=l.length:=by omega
   have t:decide ((l.length:Int)<(l.length:Int))=false:=by simp
   replace a:=hid a;replace d:=hid d;clear u;go_wp2_with fail;go_ret;exact⟨_,rfl,Nat.le_refl _,X1h a.out,by rw[←XaH];exact Xif a.out,d.out⟩
theorem XrG: ∀R:List Int,Can.adjR R=true↔∀i,i+1<R.length→¬(Prp.mrkB R[i]! =true∧Prp.mrkB R[i+1]! =true∧Prp.cccI R[i]! < Prp.cccI R[i+1]!)
 | []=>by simp [Can.adjR]
 | [a]=>by simp [Can.adjR]
 |
  a::b::t=>by
  have ih:=XrG (b::t);unfold Can.adjR;rw[Bool.and_eq_true,ih];constructor
  ·rintro ⟨h1,h2⟩ i hi;cases i with
   |
    zero=>
    intro h3;simp at h1 h3;rcases h1 with(h1 | h1) | h1
    ·rw[h3.1] at h1;cases h1
    ·rw[h3.2.1] at h1;cases h1
    ·omega
   | succ i=>exact h2 i (by simpa using hi)
  ·intro h;refine⟨?_,fun i hi=>h (i+1) (by simpa using hi)⟩;have:=h 0 (by simp);simp at this ⊢;cases h1:Prp.mrkB a
   ·exact Or.inl (Or.inl rfl)
   ·cases h2:Prp.mrkB b
    ·exact Or.inl (Or.inr rfl)
    ·exact Or.inr (this h1 h2)
theorem XkW(l:List Int):downP (X93 l).toArray=Can.X21 l:=by
 have hz:(X93 l).toArray.size=l.length:=by simp [XeC]
 have hd: ∀i,i+1<l.length→(KL ((X93 l).toArray)[i+1]! ((X93 l).toArray)[i]! ↔(Prp.mrkB l[i+1]! =true∧Prp.cccI l[i+1]! < Prp.cccI l[i]!)):=fun i hi=>by
  have e1: ∀k,k<l.length→((X93 l).toArray)[k]! =(l[k]!,rowAt l (k+1),Prp.cccI l[k]!,k):=fun k hk=>by
   rw[←XaH];have f: ∀n,n≤l.length→k<n→(partP l n)[k]! =(l[k]!,rowAt l (k+1),Prp.cccI l[k]!,k):=fun n=>by
    induction n with
    | zero=>intro _ h;omega
    |
     succ n ih=>
     intro hn j;rw[←XaG l n (by omega)];by_cases e:k=n
     ·subst e;rw[getElem!_set_same _ _ _ (by rw[XaF l k (by omega)];omega),getElem!_pos l k hk]
     ·have:=ih (by omega) (by omega);rw[Array.getElem!_eq_getD,Array.getD_eq_getD_getElem?,Array.getElem?_setIfInBounds,if_neg (fun h=>e h.symm)];rw[Array.getElem!_eq_getD,Array.getD_eq_getD_getElem?] at this;exact this
   exact f l.length (Nat.le_refl _) hk
  rw[e1 (i+1) hi,e1 i (by omega)];have hr:=X7P l (i+1) hi;have d:=Can.X5O l[i+1];rw[getElem!_pos l (i+1) hi];unfold KL;dsimp only
  by_cases h0:Prp.cccI l[i+1]=0
  ·rw[if_pos h0] at hr;have: ¬Prp.mrkB l[i+1]=true:=fun h=>by have:=d.1 h;omega
   constructor
   ·intro h;omega
   ·intro h;exact absurd h.1 this
  ·rw[if_neg h0] at hr;have h1:=Can.Xbm l[i+1];have:Prp.mrkB l[i+1]=true:=by
    cases hm:Prp.mrkB l[i+1]
    ·exact absurd (h1.1 hm) h0
    ·rfl
   constructor
   ·intro h;exact⟨this,by omega⟩
   ·intro h;omega
 generalize (X93 l).toArray=E at hz hd ⊢;rw[Bool.eq_iff_iff];unfold downP Can.X21;rw[hz,XrG,List.all_eq_true];have b: ∀i,i<l.length→l.reverse[i]! =l[l.length - 1 - i]! :=fun i hi=>by
  rw[getElem!_pos l.reverse i (by simpa using hi),getElem!_pos l _ (by omega),List.getElem_reverse]
 constructor
 ·intro h i hi;rw[List.length_reverse] at hi;have h2:=h (l.length - 2 - i) (List.mem_range.2 (by omega));have h3:=hd (l.length - 2 - i) (by omega);rw[b i (by omega),b (i+1) hi,show l.length - 1 - i=l.length - 2 - i+1 by omega,show l.length - 1 - (i+1)=l.length - 2 - i by omega];rintro ⟨a,_,c⟩;have:=h3.2 ⟨a,c⟩;simp [this] at h2
 ·intro h i hi;have g:=List.mem_range.1 hi;have h2:=h (l.length - 2 - i) (by rw[List.length_reverse];omega);rw[b _ (by omega),b _ (by omega),show l.length - 1 - (l.length - 2 - i)=i+1 by omega,show l.length - 1 - (l.length - 2 - i+1)=i by omega] at h2;have h3:=hd i (by omega);by_cases hk:KL E[i+1]! E[i]!
  ·have h4:=h3.1 hk;have:Prp.mrkB l[i]! =true:=by
    cases hm:Prp.mrkB l[i]!
    ·have:=(Can.Xbm l[i]!).1 hm;have:=(Can.X5O l[i+1]!).1 h4.1;omega
    ·rfl
   exact absurd ⟨h4.1,this,h4.2⟩ h2
  ·simp [hk]
theorem XcH(v:Value)(l:List Int)(w:World)(hl:l.length≤500000)(hv:RI w v l):Calls Tryz.prog 101 #[v] w fun e w'=>e= .returned (.bool (Can.X21 l))∧Below w.heap.size w w':=by
 have a:=Xf2 _ l w (by omega) hv;unfold XrD at a;have c:=XkW l;have hE:(X93 l).toArray.size=l.length:=by simp [XeC]
 obtain⟨N,hN⟩: ∃N,l.length=N:=⟨_,rfl⟩;obtain⟨E,g⟩: ∃E,(X93 l).toArray=E:=⟨_,rfl⟩;obtain⟨B,hB⟩: ∃B,Can.X21 l=B:=⟨_,rfl⟩;rw[g] at c hE a;rw[hB] at c ⊢;rw[hN] at hE a hl;have d:=fun(b:Nat) (W:World) (h:HoldsK encP 3 W b 0 E) (hb:b<W.heap.size)=>Xic b N E W h hb (by omega);rw[hE,c] at d;replace d:=hid d;replace a:=hid a;clear hv hE g hB c hN;go_enter Tryz.func101,Tryz.ntmps101;go_wp2_with fail;refine a.out.mono ?_;rintro e w1 ⟨b,rfl,k,hb,hH,f⟩;replace hH:=hid hH;replace f:=hid f;go_wp2_with fail;refine(d.out b w1 hH.out hb).mono ?_;rintro e w2 ⟨rfl,j⟩;have i:=hid (f.out.trans (j.mono k))
 go_wp2_with fail;go_ret;exact⟨rfl,i.out⟩
open Go.RowKit Go.Lib
namespace Can
theorem XrH(l:List Int)(k:Nat)(h:k<l.length)(n:Nat):runB ((l.drop k).map Prp.mrkB) n=max (if Prp.mrkB l[k]=true then n+1 else 0) (runB ((l.drop (k+1)).map Prp.mrkB) (if Prp.mrkB l[k]=true then n+1 else 0)):=by
 rw[List.drop_eq_getElem_cons h,List.map_cons,runB]
end Can
theorem X4T(r:Int)(c:Bool)(h:Prp.mrkB r=c)(w:World):Calls Tryz.prog 129 #[.int .i64 r] w fun e w'=>e= .returned (.bool c)∧Below w.heap.size w w':=h ▸ Xca r w
theorem XaI(v:Value)(l:List Int)(w:World)(hl:l.length≤500000)(hv:RI w v l):Calls Tryz.prog 100 #[v] w fun e w'=>e= .returned (.int .i64 (Can.X1D l:Nat))∧Below w.heap.size w w':=by
 obtain⟨p,cap,rfl⟩:=X0b hv;replace hv:=hid hv;obtain⟨M,hM⟩: ∃M,Can.X1D l=M:=⟨_,rfl⟩;rw[hM];unfold Can.X1D at hM;replace hM:=hid hM;go_enter Tryz.func100,Tryz.ntmps100;go_wp2_with fail;go_loopg [3,4,6,9] l.length (fun g va vb vx vi wr=>∃k a b:Nat,k≤l.length∧va= .int .i64 a∧vb= .int .i64 b∧vi= .int .i64 k∧g=l.length - k∧a≤k∧b≤k∧Hid (max a (Can.runB ((l.drop k).map Prp.mrkB) b)=M)∧Below w.heap.size w wr)
 case atStart=>exact⟨0,0,0,Nat.zero_le _,rfl,rfl,rfl,rfl,Nat.le_refl _,Nat.le_refl _,hid (by rw[List.drop_zero,Nat.zero_max];exact hM.out),Below.refl _ _⟩
 case round=>
  obtain⟨k,a,n,hk,rfl,rfl,rfl,rfl,u,y,h,d⟩:=hrel;by_cases hlt:k<l.length
  ·have s:(k:Int)<(l.length:Int):=by omega
   obtain⟨b,off,rfl,hb,i⟩:=ri_at (X03 hv.out d) (by omega);have hc:=i k hlt;have c:=h.out;rw[Can.XrH l k hlt n] at c;obtain⟨x,hx⟩: ∃x,l[k]=x:=⟨_,rfl⟩;rw[hx] at hc c;cases j:Prp.mrkB x with
   |
    true=>
    rw[j] at c;simp only[if_true] at c;have m:=hid (X4T x true j);replace c:=hid c;replace d:=hid d;clear i hx j h;rcases Nat.lt_or_ge (n+1) a with hA | hA
    ·have o: ¬(a:Int)≤(n:Int)+1:=by omega
     have q: ¬(a:Int)<(n:Int)+1:=by omega
     have t:(n:Int)+1<(a:Int):=by omega
     go_wp2_with (refine(m.out _).mono ?_;rintro e w2 ⟨rfl,f⟩;replace f:=hid (X05 d.out f));all_goals
      go_roundg (l.length - (k+1))
      case measure=>omega
      case rel=>exact⟨k+1,a,n+1,by omega,by first | rfl | rw[Int.max_eq_left (by omega)],by go_num,by go_num,rfl,by omega,by omega,hid (by have:=c.out;omega),f.out⟩
    ·have o:(a:Int)≤(n:Int)+1:=by omega
     have q: ¬(n:Int)+1<(a:Int):=by omega
     go_wp2_with (refine(m.out _).mono ?_;rintro e w2 ⟨rfl,f⟩;replace f:=hid (X05 d.out f));all_goals
      go_roundg (l.length - (k+1))
      case measure=>omega
      case rel=>first
       | exact⟨k+1,n+1,n+1,by omega,by first | (rw[Int.max_eq_right (by omega)];go_num) | go_num,by go_num,by go_num,rfl,by omega,by omega,hid (by have:=c.out;omega),f.out⟩
       | exact⟨k+1,a,n+1,by omega,rfl,by go_num,by go_num,rfl,by omega,by omega,hid (by have:=c.out;omega),f.out⟩
   |
    false=>
    rw[j] at c;simp only[Bool.false_eq_true,if_false,Nat.zero_max] at c;have m:=hid (X4T x false j);replace c:=hid c;replace d:=hid d;clear i hx j h;rcases Nat.eq_zero_or_pos a with hA | hA
    ·subst hA;go_wp2_with (refine(m.out _).mono ?_;rintro e w2 ⟨rfl,f⟩;replace f:=hid (X05 d.out f));all_goals
      go_roundg (l.length - (k+1))
      case measure=>omega
      case rel=>exact⟨k+1,0,0,by omega,by first | rfl | go_num,rfl,by go_num,rfl,by omega,by omega,hid (by have:=c.out;omega),f.out⟩
    ·have o: ¬(a:Int)≤0:=by omega
     have q:(0:Int)<(a:Int):=by omega
     have t: ¬(a:Int)<0:=by omega
     go_wp2_with (refine(m.out _).mono ?_;rintro e w2 ⟨rfl,f⟩;replace f:=hid (X05 d.out f));all_goals
      go_roundg (l.length - (k+1))
      case measure=>omega
      case rel=>exact⟨k+1,a,0,by omega,by first | rfl | rw[Int.max_eq_left (by omega)],rfl,by go_num,rfl,by omega,by omega,hid (by have:=c.out;omega),f.out⟩
  ·obtain rfl:k=l.length:=by omega
   have s:decide ((l.length:Int)<(l.length:Int))=false:=by simp
   rw[List.drop_length] at h;have r:a=M:=by have:=h.out;simpa [Can.runB] using this
   subst r;replace h:=hid h;replace d:=hid d;go_wp2_with fail;go_ret;exact⟨rfl,d.out⟩
def Head(m:List Int)(H last:Int):Prop:=
 ((H= -1∧∀j (h:j<m.length),Prp.mrkB m[j]=true)∨∃k:Nat,∃hk:k<m.length,H=k∧Prp.mrkB m[k]=false∧∀j (h:j<m.length),k<j→Prp.mrkB m[j]=true)∧∀L,(hL:m.length=L+1)→Prp.mrkB (m[L]'(by omega))=true→last=Prp.cccI (m[L]'(by omega))
theorem X9m{m:List Int}{H last:Int}(h:Head m H last){x c:Int}(hx:Prp.mrkB x=true)(hc:Prp.cccI x=c):Head (m++ [x]) H c:=by
 refine⟨?_,fun L hL _=>?_⟩
 ·rcases h.1 with⟨h1,h2⟩ | ⟨k,hk,h1,h2,h3⟩
  ·refine .inl ⟨h1,fun j hj=>?_⟩;rw[List.length_append,List.length_singleton] at hj;by_cases e:j<m.length
   ·rw[List.getElem_append_left e];exact h2 j e
   ·obtain rfl:j=m.length:=by omega
    simpa using hx
  ·refine .inr ⟨k,by simp;omega,h1,by rw[List.getElem_append_left hk];exact h2,fun j hj a=>?_⟩;rw[List.length_append,List.length_singleton] at hj;by_cases e:j<m.length
   ·rw[List.getElem_append_left e];exact h3 j e a
   ·obtain rfl:j=m.length:=by omega
    simpa using hx
 ·rw[List.length_append,List.length_singleton] at hL;obtain rfl:L=m.length:=by omega
  simpa using hc.symm
theorem XbG(m:List Int){x last:Int}(hx:Prp.mrkB x=false):Head (m++ [x]) (m.length:Int) last:=by
 refine⟨.inr ⟨m.length,by simp,rfl,by simpa using hx,fun j hj a=>?_⟩,fun L hL h=>?_⟩
 ·rw[List.length_append,List.length_singleton] at hj;omega
 ·rw[List.length_append,List.length_singleton] at hL;obtain rfl:L=m.length:=by omega
  simp [hx] at h
theorem XmR{m:List Int}{last:Int}{k:Nat}(hk:k<m.length)(h:Head m (k:Int) last){v:Int}(hv:Prp.mrkB v=false):Head (m.set k v) (k:Int) last:=by
 obtain⟨h1,h4⟩:=h;rcases h1 with⟨h1,_⟩ | ⟨k',b,h1,h2,h3⟩
 ·omega
 ·obtain rfl:k=k':=by omega
  refine⟨.inr ⟨k,by simpa using hk,rfl,by simpa using hv,fun j hj a=>?_⟩,fun L hL h=>?_⟩
  ·rw[List.length_set] at hj;rw[List.getElem_set_ne (by omega)];exact h3 j hj a
  ·rw[List.length_set] at hL;by_cases e:k=L
   ·subst e;rw[List.getElem_set_self] at h;rw[hv] at h;cases h
   ·rw[List.getElem_set_ne e] at h ⊢;exact h4 L hL h
open Go.RowKit Go.Lib
theorem X7Q(n:Nat)(hn:n≤1000000): ∃X:Array Value,X.size=n∧∀W:World,(Instr.makeSlice 24 (.int .i64 0) (.int .i64 (n:Int))).run Tryz.prog W= .ok (.slice (some ⟨W.heap.size,0,none⟩) 0 n) (W.alloc (.cells X 3)):=by
 obtain⟨i0,hi,h⟩:=Option.map_eq_some_iff.1 X2p;simp only[Prod.mk.injEq] at h;refine⟨madeCells (Value.int .i64 0).cells (n *i0.size),by rw[size_madeCells,h.2.1];omega,fun W=>?_⟩;have hr:=run_make (P:=Tryz.prog) W 24 3 i0 (.int .i64 0) Tryz.underlying24 hi h.1 .i64 .i64 0 (n:Int) (by omega) (by omega) (by rw[h.2.2];omega) (by omega);rw[Int.toNat_natCast] at hr;exact hr
theorem X9n(w:World)(X:Array Value)(n:Nat)(hX:X.size=n)(hn:n≤maxLen):OwnI w.heap.size (.slice (some ⟨w.heap.size,0,none⟩) 0 n) [] (w.alloc (.cells X 3)):=by
 refine⟨by simp, .inr ⟨w.heap.size,n,X,rfl,Nat.le_refl _,heap_alloc_new w _,by simp,hn,by rw[hX,Nat.mul_one],?_⟩⟩;simp
theorem Xih(r:Int)(c:Int)(h:Prp.cccI r=c)(w:World):Calls Tryz.prog 163 #[.int .i64 r] w fun e w'=>e= .returned (.int .i64 c)∧Below w.heap.size w w':=h ▸ Xek r w
theorem Xbk(hJ:XEq)(hN:XEr)(v:Value)(l:List Int)(w:World)(hl:l.length≤500000)(hv:RI w v l):Calls Tryz.prog 151 #[v] w (Makes (Can.X0s l) w):=by
 obtain⟨i0,hi,E,F,G⟩:=info_parts X2p;obtain⟨p,cap,rfl⟩:=X0b hv;obtain⟨X,hX,d⟩:=X7Q l.length (by omega);replace hv:=hid hv;replace hX:=hid hX;replace hJ:=hid hJ;replace hN:=hid hN;go_enter Tryz.func151,Tryz.ntmps151;go_wp2_with fail;go_loopg [3,4,5,7,8,9,10,16] l.length (fun g vt vh vl v7 v8 v9 ae vi wr=>∃ (k:Nat) (H last:Int),k≤l.length∧vi= .int .i64 k∧vh= .int .i64 H∧vl= .int .i64 last∧g=l.length - k∧OwnI w.heap.size vt (Can.X0s (l.take k)) wr∧Below w.heap.size w wr∧Head (Can.X0s (l.take k)) H last)
 case atStart=>exact⟨0,-1,0,Nat.zero_le _,rfl,rfl,rfl,rfl,X9n w X l.length hX.out (by unfold maxLen;omega),X04 w _,⟨.inl ⟨rfl,fun j h=>by cases h⟩,fun L h=>by cases h⟩⟩
 case round=>
  obtain⟨k,H,last,hk,rfl,rfl,rfl,rfl,r,B,hh⟩:=hrel;by_cases hlt:k<l.length
  ·have a4:(k:Int)<(l.length:Int):=by omega
   obtain⟨b,off,rfl,hb,N⟩:=ri_at (X03 hv.out B) (by omega);have hc:=N k hlt;obtain⟨x,hx⟩: ∃x,l[k]=x:=⟨_,rfl⟩;have a6:l.take (k+1)=l.take k++ [x]:=by rw[List.take_succ_eq_append_getElem hlt,hx]
   rw[hx] at hc;have a:=Can.Xim (l.take k) x;rw[←a6] at a;have P:=Can.X1k (l.take k);rw[List.length_take] at P;obtain⟨m,hm⟩: ∃m,Can.X0s (l.take k)=m:=⟨_,rfl⟩;rw[hm] at r a P hh;have ad:m.length≤1000000:=by omega
   obtain⟨c,q⟩: ∃c,Prp.cccI x=c:=⟨_,rfl⟩;have U:=hid (fun W=>Xih x c q W);obtain⟨pt,ct,rfl⟩:=X0b (X0a r);replace q:=hid q;replace a:=hid a;replace r:=hid r;replace B:=hid B;replace hh:=hid hh;clear N a6 hx hm P d;go_wp2_with fail;refine(U.out _).mono ?_;rintro e w2 ⟨rfl,R⟩;have ab:w2.cell? ⟨b,off+k,none⟩=some (.int .i64 x):=(R.cell hb).trans hc;have o2:=hid (X0x r.out R);have b2:=hid (X05 B.out R);clear U r B R hc;have hd:=hh.out;obtain⟨a8,O⟩:=hd;rcases a8 with⟨rfl,T⟩ | ⟨j,hj,rfl,S,C⟩
   ·have f:Hid (Can.X0s (l.take (k+1))=m++ [x]):=hid (by rw[a.out,Can.XcK m x T];simp);clear T O a;by_cases d:Prp.mrkB x=true
    ·have o3:=hid (X0B o2.out (.cells #[.int .i64 x] 3));have b3:=hid (b2.out.alloc b2.out.size (.cells #[.int .i64 x] 3));have s3:=hid (X0Y (X0a (X0H w.heap.size w2 [x] #[.int .i64 x] w2.heap.size 1 rfl b2.out.size rfl rfl (by unfold maxLen;omega))));have hz:(c == 0)=false:=beq_eq_false_iff_ne.2 (by have:=(Can.X5O x).1 d;have:=q.out;omega);have t:=hid (X9m (c:=c) hh.out d q.out);clear d
     go_wp2_with (at_builtin;refine X0c rfl _ _ 24 rfl w.heap.size 3 i0 (.int .i64 0) 8 Tryz.underlying24 hi E F G rfl _ _ _ rfl o3.out _ _ rfl s3.out (X0u _) (by simp only[List.length_map,List.length_append,List.length_take,List.length_drop,List.length_cons,List.length_nil,List.length_singleton];unfold maxLen;omega) (by simp only[List.length_map,List.length_append,List.length_take,List.length_drop,List.length_cons,List.length_nil,List.length_singleton];omega) b3.out.size ?_;intro v5 w5 n i;have o5:=hid (X0i (l:=m++ [x]) n (by(try simp);try omega) (by(try simp);try omega));have b5:=hid (X0k b3.out i b3.out.size o3.out (Nat.le_refl _));clear n i)
     go_roundg (l.length - (k+1))
     case measure=>omega
     case rel=>exact⟨k+1,_,_,by omega,by go_num,rfl,rfl,rfl,by rw[f.out];exact o5.out,b5.out,by rw[f.out];exact t.out⟩
    ·have o3:=hid (X0B o2.out (.cells #[.int .i64 x] 3));have b3:=hid (b2.out.alloc b2.out.size (.cells #[.int .i64 x] 3));have s3:=hid (X0Y (X0a (X0H w.heap.size w2 [x] #[.int .i64 x] w2.heap.size 1 rfl b2.out.size rfl rfl (by unfold maxLen;omega))));have hz:(c == 0)=true:=beq_iff_eq.2 (by have:=(Can.Xbm x).1 (by simpa using d);have:=q.out;omega);have t:=hid (XbG m (x:=x) (last:=c) (by simpa using d));clear d
     go_wp2_with (at_builtin;refine X0c rfl _ _ 24 rfl w.heap.size 3 i0 (.int .i64 0) 8 Tryz.underlying24 hi E F G rfl _ _ _ rfl o3.out _ _ rfl s3.out (X0u _) (by simp only[List.length_map,List.length_append,List.length_take,List.length_drop,List.length_cons,List.length_nil,List.length_singleton];unfold maxLen;omega) (by simp only[List.length_map,List.length_append,List.length_take,List.length_drop,List.length_cons,List.length_nil,List.length_singleton];omega) b3.out.size ?_;intro v5 w5 n i;have o5:=hid (X0i (l:=m++ [x]) n (by(try simp);try omega) (by(try simp);try omega));have b5:=hid (X0k b3.out i b3.out.size o3.out (Nat.le_refl _));clear n i)
     go_roundg (l.length - (k+1))
     case measure=>omega
     case rel=>exact⟨k+1,_,_,by omega,by go_num,rfl,rfl,rfl,by rw[f.out];exact o5.out,b5.out,by rw[f.out];exact t.out⟩
   ·obtain⟨L,hL⟩: ∃L,m.length=L+1:=⟨m.length - 1,by omega⟩;by_cases D:j=L∨last<c
    ·have a5: ¬(Prp.mrkB (m[L]'(by omega))=true∧Prp.cccI x≤Prp.cccI (m[L]'(by omega))):=by
      rintro ⟨h1,h2⟩;rcases D with rfl | D
      ·rw[S] at h1;cases h1
      ·have:=O L hL h1;rw[q.out] at h2;omega
     have A:=Can.Xov m L hL x j hj S C a5;obtain⟨g0,cp,a7,hB,a3,M⟩:=X9K o2.out (by omega);have I:=M j hj;obtain⟨y,hy⟩: ∃y,m[j]=y:=⟨_,rfl⟩;rw[hy] at A I;have ac:(j:Int)<(m.length:Int):=by omega
     have V:((j:Int) == (m.length:Int) - 1)=decide (j=L):=by
      by_cases e:j=L
      ·rw[decide_eq_true e];exact beq_iff_eq.2 (by omega)
      ·rw[decide_eq_false e];exact beq_eq_false_iff_ne.2 (by omega)
     simp only[Value.slice.injEq] at a7;obtain⟨rfl,_,rfl⟩:=a7;clear a5 O M C S hy;by_cases K:j=L
     ·rw[decide_eq_true K] at V;clear D K hL;cases z:Par.joinI y x with
      |
       some u=>
       rw[z] at A;have f:Hid (Can.X0s (l.take (k+1))=m.set j u):=hid (by rw[a.out,A,List.reverse_reverse]);have a1:=hid (Can.X2P z).1;have s:=hid (fun W=>hJ.out y x u z W);clear A z a;go_wp2_with (go_at_call 182;refine(s.out _).mono ?_;rintro e w3 ⟨rfl,o⟩;have o3:=X0x o2.out o;have a2:=(o.cell a3).trans I;have a9:=World.ownsRow.frozenAt o3 j;have o4:=hid (Xow o3 rfl j u);have b4:=hid ((X05 b2.out o).setCell (p:=⟨g0,j,none⟩) hB (.int .i64 u));replace o3:=hid o3;replace o:=hid o;clear I);go_roundg (l.length - (k+1))
       case measure=>omega
       case rel=>exact⟨k+1,_,_,by omega,by go_num,rfl,rfl,rfl,by rw[f.out];exact o4.out,b4.out,by rw[f.out];exact XmR hj hh.out a1.out⟩
      |
       none=>
       rw[z] at A;have f:Hid (Can.X0s (l.take (k+1))=m++ [x]):=hid (by rw[a.out,A];simp);have s:=hid (fun W=>hN.out y x z W);clear A z a;go_upto_region 12 with(go_at_call 182;refine(s.out _).mono ?_;rintro e w3 ⟨rfl,o⟩;replace o2:=hid (X0x o2.out o);replace b2:=hid (X05 b2.out o);clear I);by_cases d:Prp.mrkB x=true
       ·have o3:=hid (X0B o2.out (.cells #[.int .i64 x] 3));have b3:=hid (b2.out.alloc b2.out.size (.cells #[.int .i64 x] 3));have s3:=hid (X0Y (X0a (X0H w.heap.size w3 [x] #[.int .i64 x] w3.heap.size 1 rfl b2.out.size rfl rfl (by unfold maxLen;omega))));have hz:(c == 0)=false:=beq_eq_false_iff_ne.2 (by have:=(Can.X5O x).1 d;have:=q.out;omega);have t:=hid (X9m (c:=c) hh.out d q.out);clear d
        go_wp2_with (at_builtin;refine X0c rfl _ _ 24 rfl w.heap.size 3 i0 (.int .i64 0) 8 Tryz.underlying24 hi E F G rfl _ _ _ rfl o3.out _ _ rfl s3.out (X0u _) (by simp only[List.length_map,List.length_append,List.length_take,List.length_drop,List.length_cons,List.length_nil,List.length_singleton];unfold maxLen;omega) (by simp only[List.length_map,List.length_append,List.length_take,List.length_drop,List.length_cons,List.length_nil,List.length_singleton];omega) b3.out.size ?_;intro v5 w5 n i;have o5:=hid (X0i (l:=m++ [x]) n (by(try simp);try omega) (by(try simp);try omega));have b5:=hid (X0k b3.out i b3.out.size o3.out (Nat.le_refl _));clear n i)
        go_roundg (l.length - (k+1))
        case measure=>omega
        case rel=>exact⟨k+1,_,_,by omega,by go_num,rfl,rfl,rfl,by rw[f.out];exact o5.out,b5.out,by rw[f.out];exact t.out⟩
       ·have o3:=hid (X0B o2.out (.cells #[.int .i64 x] 3));have b3:=hid (b2.out.alloc b2.out.size (.cells #[.int .i64 x] 3));have s3:=hid (X0Y (X0a (X0H w.heap.size w3 [x] #[.int .i64 x] w3.heap.size 1 rfl b2.out.size rfl rfl (by unfold maxLen;omega))));have hz:(c == 0)=true:=beq_iff_eq.2 (by have:=(Can.Xbm x).1 (by simpa using d);have:=q.out;omega);have t:=hid (XbG m (x:=x) (last:=c) (by simpa using d));clear d
        go_wp2_with (at_builtin;refine X0c rfl _ _ 24 rfl w.heap.size 3 i0 (.int .i64 0) 8 Tryz.underlying24 hi E F G rfl _ _ _ rfl o3.out _ _ rfl s3.out (X0u _) (by simp only[List.length_map,List.length_append,List.length_take,List.length_drop,List.length_cons,List.length_nil,List.length_singleton];unfold maxLen;omega) (by simp only[List.length_map,List.length_append,List.length_take,List.length_drop,List.length_cons,List.length_nil,List.length_singleton];omega) b3.out.size ?_;intro v5 w5 n i;have o5:=hid (X0i (l:=m++ [x]) n (by(try simp);try omega) (by(try simp);try omega));have b5:=hid (X0k b3.out i b3.out.size o3.out (Nat.le_refl _));clear n i)
        go_roundg (l.length - (k+1))
        case measure=>omega
        case rel=>exact⟨k+1,_,_,by omega,by go_num,rfl,rfl,rfl,by rw[f.out];exact o5.out,b5.out,by rw[f.out];exact t.out⟩
     ·rw[decide_eq_false K] at V;have aa:last<c:=by rcases D with h | h;exact absurd h K;exact h
      clear D K hL;cases z:Par.joinI y x with
      |
       some u=>
       rw[z] at A;have f:Hid (Can.X0s (l.take (k+1))=m.set j u):=hid (by rw[a.out,A,List.reverse_reverse]);have a1:=hid (Can.X2P z).1;have s:=hid (fun W=>hJ.out y x u z W);clear A z a;go_wp2_with (go_at_call 182;refine(s.out _).mono ?_;rintro e w3 ⟨rfl,o⟩;have o3:=X0x o2.out o;have a2:=(o.cell a3).trans I;have a9:=World.ownsRow.frozenAt o3 j;have o4:=hid (Xow o3 rfl j u);have b4:=hid ((X05 b2.out o).setCell (p:=⟨g0,j,none⟩) hB (.int .i64 u));replace o3:=hid o3;replace o:=hid o;clear I);go_roundg (l.length - (k+1))
       case measure=>omega
       case rel=>exact⟨k+1,_,_,by omega,by go_num,rfl,rfl,rfl,by rw[f.out];exact o4.out,b4.out,by rw[f.out];exact XmR hj hh.out a1.out⟩
      |
       none=>
       rw[z] at A;have f:Hid (Can.X0s (l.take (k+1))=m++ [x]):=hid (by rw[a.out,A];simp);have s:=hid (fun W=>hN.out y x z W);clear A z a;go_upto_region 12 with(go_at_call 182;refine(s.out _).mono ?_;rintro e w3 ⟨rfl,o⟩;replace o2:=hid (X0x o2.out o);replace b2:=hid (X05 b2.out o);clear I);by_cases d:Prp.mrkB x=true
       ·have o3:=hid (X0B o2.out (.cells #[.int .i64 x] 3));have b3:=hid (b2.out.alloc b2.out.size (.cells #[.int .i64 x] 3));have s3:=hid (X0Y (X0a (X0H w.heap.size w3 [x] #[.int .i64 x] w3.heap.size 1 rfl b2.out.size rfl rfl (by unfold maxLen;omega))));have hz:(c == 0)=false:=beq_eq_false_iff_ne.2 (by have:=(Can.X5O x).1 d;have:=q.out;omega);have t:=hid (X9m (c:=c) hh.out d q.out);clear d
        go_wp2_with (at_builtin;refine X0c rfl _ _ 24 rfl w.heap.size 3 i0 (.int .i64 0) 8 Tryz.underlying24 hi E F G rfl _ _ _ rfl o3.out _ _ rfl s3.out (X0u _) (by simp only[List.length_map,List.length_append,List.length_take,List.length_drop,List.length_cons,List.length_nil,List.length_singleton];unfold maxLen;omega) (by simp only[List.length_map,List.length_append,List.length_take,List.length_drop,List.length_cons,List.length_nil,List.length_singleton];omega) b3.out.size ?_;intro v5 w5 n i;have o5:=hid (X0i (l:=m++ [x]) n (by(try simp);try omega) (by(try simp);try omega));have b5:=hid (X0k b3.out i b3.out.size o3.out (Nat.le_refl _));clear n i)
        go_roundg (l.length - (k+1))
        case measure=>omega
        case rel=>exact⟨k+1,_,_,by omega,by go_num,rfl,rfl,rfl,by rw[f.out];exact o5.out,b5.out,by rw[f.out];exact t.out⟩
       ·have o3:=hid (X0B o2.out (.cells #[.int .i64 x] 3));have b3:=hid (b2.out.alloc b2.out.size (.cells #[.int .i64 x] 3));have s3:=hid (X0Y (X0a (X0H w.heap.size w3 [x] #[.int .i64 x] w3.heap.size 1 rfl b2.out.size rfl rfl (by unfold maxLen;omega))));have hz:(c == 0)=true:=beq_iff_eq.2 (by have:=(Can.Xbm x).1 (by simpa using d);have:=q.out;omega);have t:=hid (XbG m (x:=x) (last:=c) (by simpa using d));clear d
        go_wp2_with (at_builtin;refine X0c rfl _ _ 24 rfl w.heap.size 3 i0 (.int .i64 0) 8 Tryz.underlying24 hi E F G rfl _ _ _ rfl o3.out _ _ rfl s3.out (X0u _) (by simp only[List.length_map,List.length_append,List.length_take,List.length_drop,List.length_cons,List.length_nil,List.length_singleton];unfold maxLen;omega) (by simp only[List.length_map,List.length_append,List.length_take,List.length_drop,List.length_cons,List.length_nil,List.length_singleton];omega) b3.out.size ?_;intro v5 w5 n i;have o5:=hid (X0i (l:=m++ [x]) n (by(try simp);try omega) (by(try simp);try omega));have b5:=hid (X0k b3.out i b3.out.size o3.out (Nat.le_refl _));clear n i)
        go_roundg (l.length - (k+1))
        case measure=>omega
        case rel=>exact⟨k+1,_,_,by omega,by go_num,rfl,rfl,rfl,by rw[f.out];exact o5.out,b5.out,by rw[f.out];exact t.out⟩
    ·have K:j≠L:=fun h=>D (.inl h);have aa: ¬last<c:=fun h=>D (.inr h);have a0:=C L (by omega) (by omega);have f:Hid (Can.X0s (l.take (k+1))=m++ [x]):=hid (by rw[a.out,Can.Xl4 m L hL x a0 (by rw[q.out];have:=O L hL a0;omega)];simp);have V:((j:Int) == (m.length:Int) - 1)=false:=beq_eq_false_iff_ne.2 (by omega);clear D K O C S a0 hL a;by_cases d:Prp.mrkB x=true
     ·have o3:=hid (X0B o2.out (.cells #[.int .i64 x] 3));have b3:=hid (b2.out.alloc b2.out.size (.cells #[.int .i64 x] 3));have s3:=hid (X0Y (X0a (X0H w.heap.size w2 [x] #[.int .i64 x] w2.heap.size 1 rfl b2.out.size rfl rfl (by unfold maxLen;omega))));have hz:(c == 0)=false:=beq_eq_false_iff_ne.2 (by have:=(Can.X5O x).1 d;have:=q.out;omega);have t:=hid (X9m (c:=c) hh.out d q.out);clear d
      go_wp2_with (at_builtin;refine X0c rfl _ _ 24 rfl w.heap.size 3 i0 (.int .i64 0) 8 Tryz.underlying24 hi E F G rfl _ _ _ rfl o3.out _ _ rfl s3.out (X0u _) (by simp only[List.length_map,List.length_append,List.length_take,List.length_drop,List.length_cons,List.length_nil,List.length_singleton];unfold maxLen;omega) (by simp only[List.length_map,List.length_append,List.length_take,List.length_drop,List.length_cons,List.length_nil,List.length_singleton];omega) b3.out.size ?_;intro v5 w5 n i;have o5:=hid (X0i (l:=m++ [x]) n (by(try simp);try omega) (by(try simp);try omega));have b5:=hid (X0k b3.out i b3.out.size o3.out (Nat.le_refl _));clear n i)
      go_roundg (l.length - (k+1))
      case measure=>omega
      case rel=>exact⟨k+1,_,_,by omega,by go_num,rfl,rfl,rfl,by rw[f.out];exact o5.out,b5.out,by rw[f.out];exact t.out⟩
     ·have o3:=hid (X0B o2.out (.cells #[.int .i64 x] 3));have b3:=hid (b2.out.alloc b2.out.size (.cells #[.int .i64 x] 3));have s3:=hid (X0Y (X0a (X0H w.heap.size w2 [x] #[.int .i64 x] w2.heap.size 1 rfl b2.out.size rfl rfl (by unfold maxLen;omega))));have hz:(c == 0)=true:=beq_iff_eq.2 (by have:=(Can.Xbm x).1 (by simpa using d);have:=q.out;omega);have t:=hid (XbG m (x:=x) (last:=c) (by simpa using d));clear d
      go_wp2_with (at_builtin;refine X0c rfl _ _ 24 rfl w.heap.size 3 i0 (.int .i64 0) 8 Tryz.underlying24 hi E F G rfl _ _ _ rfl o3.out _ _ rfl s3.out (X0u _) (by simp only[List.length_map,List.length_append,List.length_take,List.length_drop,List.length_cons,List.length_nil,List.length_singleton];unfold maxLen;omega) (by simp only[List.length_map,List.length_append,List.length_take,List.length_drop,List.length_cons,List.length_nil,List.length_singleton];omega) b3.out.size ?_;intro v5 w5 n i;have o5:=hid (X0i (l:=m++ [x]) n (by(try simp);try omega) (by(try simp);try omega));have b5:=hid (X0k b3.out i b3.out.size o3.out (Nat.le_refl _));clear n i)
      go_roundg (l.length - (k+1))
      case measure=>omega
      case rel=>exact⟨k+1,_,_,by omega,by go_num,rfl,rfl,rfl,by rw[f.out];exact o5.out,b5.out,by rw[f.out];exact t.out⟩
  ·obtain rfl:k=l.length:=by omega
   have a4:decide ((l.length:Int)<(l.length:Int))=false:=by simp
   rw[List.take_length] at r;replace r:=hid r;replace B:=hid B;replace hh:=hid hh;clear d;go_wp2_with fail;go_ret;exact⟨_,rfl,r.out,B.out⟩
theorem X7c(hJ:XEq)(hN:XEr)(v:Value)(l:List Int)(w:World)(hl:l.length≤500000)(hv:RI w v l):Calls Tryz.prog 151 #[v] w (Told (Can.X0s l) w):=(Xbk hJ hN v l w hl hv).mono fun _ _=>XgM
end Go.Proofs.YtkofnpkopbnocaaGreatDoor
