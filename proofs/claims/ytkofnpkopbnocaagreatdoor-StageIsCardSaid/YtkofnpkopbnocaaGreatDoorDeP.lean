import Derived.Test.YtkofnpkopbnocaaGreatDoorMthP
import Derived.Lib.Bytealg
import Derived.Test.YtkofnpkopbnocaaGreatDoorBasP
import Derived.Test.YtkofnpkopbnocaaGreatDoorShelf
import Derived.Deep.LoopGhost
import Derived.Deep.DeepCutAuto
import Derived.KernelRfl
set_option linter.unusedSimpArgs false
set_option linter.unusedVariables false
set_option maxHeartbeats 1600000
namespace Go.Proofs.YtkofnpkopbnocaaGreatDoor.Dcp
def hexL:List UInt8:= [48,49,50,51,52,53,54,55,56,57,65,66,67,68,69,70]
def hexD(c:UInt8):Int:=Lib.indexByte hexL c
theorem XwI: ∀n:Fin 256,-1≤hexD (UInt8.ofNat n.1)∧hexD (UInt8.ofNat n.1)≤15:=by decide+kernel
theorem X3C(c:UInt8): -1≤hexD c∧hexD c≤15:=by
 have h:=XwI ⟨c.toNat,c.toNat_lt⟩;simpa using h
def numF(l:List UInt8):Int:=l.foldl (fun n c=>n *16+hexD c) 0
theorem Xsi(l:List UInt8)(c:UInt8):numF (l++ [c])=numF l *16+hexD c:=by simp [numF]
theorem XzJ(l:List UInt8)(h:l.length≤4): -65536<numF l∧numF l<65536:=by
 match l,h with
 | [],_=>decide
 | [a],_=>have:=X3C a;simp only[numF,List.foldl];omega
 | [a,b],_=>have:=X3C a;have:=X3C b;simp only[numF,List.foldl];omega
 | [a,b,c],_=>have:=X3C a;have:=X3C b;have:=X3C c;simp only[numF,List.foldl];omega
 | [a,b,c,d],_=>have:=X3C a;have:=X3C b;have:=X3C c;have:=X3C d;simp only[numF,List.foldl];omega
 | _::_::_::_::_::_,h=>simp at h
def madeF(l:List UInt8):Nat→Nat→List Int
 | 0,_=> []
 | f+1,k=>if (l.drop ((1+k) *5)).headD 0=32 then [] else numF ((l.drop ((1+k) *5)).take 4)::madeF l f (k+1)
theorem XBP(l:List UInt8)(f k:Nat):(madeF l f k).length≤f:=by
 induction f generalizing k with
 | zero=>exact Nat.le_refl _
 | succ f ih=>unfold madeF;split <;> simp;exact ih _
def okRow(l:List UInt8)(s:Int × List Int):Bool:=decide (l.length=25) && decide (numF (l.take 4)=s.1) && decide (madeF l 4 0=s.2)
def okAll:List UInt8→List (Int × List Int)→Bool
 | l,[]=>l.isEmpty
 | l,s::t=>okRow (l.take 25) s && okAll (l.drop 25) t
theorem Xn1{l:List UInt8}{t:List (Int × List Int)}(h:okAll l t=true)(k:Nat)(hk:k<t.length):okRow ((l.drop (k *25)).take 25) t[k]=true:=by
 induction t generalizing l k with
 | nil=>simp at hk
 |
  cons s t ih=>
  simp only[okAll,Bool.and_eq_true] at h;cases k with
  | zero=>simpa using h.1
  |
   succ k=>
   have:=ih h.2 k (by simpa using hk);rw[List.drop_drop] at this;rw[show (k+1) *25=25+k *25 by omega];exact this
theorem Xd0{l:List UInt8}{s:Int × List Int}(h:okRow l s=true):l.length=25∧numF (l.take 4)=s.1∧madeF l 4 0=s.2:=by
 simp only[okRow,Bool.and_eq_true,decide_eq_true_eq] at h;exact⟨h.1.1,h.1.2,h.2⟩
theorem up:Lk.upB T=true:=by decide+kernel
theorem rows:T.length=374:=by decide+kernel
end Go.Proofs.YtkofnpkopbnocaaGreatDoor.Dcp
namespace Go.Proofs.YtkofnpkopbnocaaGreatDoor
open Go.RowKit Go.Lib
noncomputable def Xs1(S:ByteArray):Code:=
 ((Go.Code.region 0 #[{ dst:=some 2,op:=Go.Op.assign (Go.Operand.const (Go.Value.string { data:= #[] })),type:=9,pos:= "decomp.go:81",after:= #[],guard:=none }] false).seq ((Go.Code.region 1 #[{ dst:=some 3,op:=Go.Op.move (Go.Operand.tmp 0),type:=3,pos:= "decomp.go:81",after:= #[],guard:=none },{ dst:=some 4,op:=Go.Op.binOp Go.BinOp.mul 3 (Go.Operand.tmp 3) (Go.Operand.const (Go.Value.int Go.IntKind.i64 25)) 3,type:=3,pos:= "decomp.go:81",after:= #[{ on:=0,ground:=Go.Ground.data }],guard:=none },{ dst:=some 5,op:=Go.Op.move (Go.Operand.tmp 0),type:=3,pos:= "decomp.go:81",after:= #[],guard:=none },{ dst:=some 6,op:=Go.Op.binOp Go.BinOp.add 3 (Go.Operand.tmp 5) (Go.Operand.const (Go.Value.int Go.IntKind.i64 1)) 3,type:=3,pos:= "decomp.go:81",after:= #[{ on:=2,ground:=Go.Ground.data }],guard:=none },{ dst:=some 7,op:=Go.Op.binOp Go.BinOp.mul 3 (Go.Operand.tmp 6) (Go.Operand.const (Go.Value.int Go.IntKind.i64 25)) 3,type:=3,pos:= "decomp.go:81",after:= #[{ on:=3,ground:=Go.Ground.data }],guard:=none },{ dst:=some 8,op:=Go.Op.slice 9 (Go.Operand.const (Go.Value.string S)) (some (Go.Operand.tmp 4)) (some (Go.Operand.tmp 7)) none,type:=9,pos:= "decomp.go:81",after:= #[{ on:=1,ground:=Go.Ground.data },{ on:=4,ground:=Go.Ground.data }],guard:=none },{ dst:=some 2,op:=Go.Op.assign (Go.Operand.tmp 8),type:=9,pos:= "decomp.go:81",after:= #[{ on:=5,ground:=Go.Ground.data },{ on:=0,ground:=Go.Ground.phase },{ on:=1,ground:=Go.Ground.phase },{ on:=2,ground:=Go.Ground.phase },{ on:=3,ground:=Go.Ground.phase },{ on:=4,ground:=Go.Ground.phase },{ on:=5,ground:=Go.Ground.phase }],guard:=none }] false).seq Go.Code.ret))
noncomputable def rowS:ByteArray:=
 match Tryz.f218.body with
 |
  some (.seq _ (.seq (.region _ ops _) _))=>(match ops[5]? with
  | some o=>(match o.op with | .slice _ (.const (.string s)) _ _ _=>s | _=>⟨#[]⟩)
  | none=>⟨#[]⟩)
 | _=>⟨#[]⟩
theorem XoA:Tryz.f218.body=some (Xs1 rowS):=by kernel_rfl
theorem Xs2:rowS.size=9350:=by decide+kernel
theorem XzA:Dcp.okAll rowS.data.toList Dcp.T=true:=by decide+kernel
noncomputable def rowB(k:Nat):ByteArray:=rowS.extract (k *25) ((k+1) *25)
theorem Xs3(k:Nat):(rowB k).data.toList=(rowS.data.toList.drop (k *25)).take 25:=by
 unfold rowB;rw[Lib.extract_data,show (k+1) *25 - k *25=25 by omega]
theorem Xs4(k:Nat)(hk:k<374)(w:World):
 Calls Tryz.prog 218 #[.int .i64 k] w fun e w'=>e= .returned (.string (rowB k))∧w=w':=by
 unfold rowB;have b:=Xs2;have a:=XoA;obtain⟨S,hS⟩: ∃S,rowS=S:=⟨_,rfl⟩;rw[hS] at b a ⊢;replace hS:=hid hS;refine calls_of_wp Tryz.func218 a ?_;clear a;unfold Xs1;simp only[Tryz.ntmps218,List.size_toArray,List.length_cons,List.length_nil,Nat.reduceAdd,Nat.reduceSub,Array.replicate_succ,
  Array.replicate_zero,List.push_toArray,List.append_toArray,List.nil_append,List.cons_append]
 go_wp2_with fail;go_ret;exact⟨rfl,rfl⟩
theorem XzB(c:UInt8)(w:World):
 Calls Tryz.prog 230 #[.string ⟨#[48,49,50,51,52,53,54,55,56,57,65,66,67,68,69,70]⟩, .int .u8 (c.toNat:Int)] w fun e w'=>e= .returned (.int .i64 (Dcp.hexD c))∧w=w':=by
 refine(Tryz.strings_IndexByte _ _ _).mono ?_;rintro e w' ⟨rfl,rfl⟩;refine⟨?_,rfl⟩;rw[show ((c.toNat:Int)).toNat.toUInt8=c by simp];rfl
theorem XoB(s:ByteArray)(k:Nat)(h:k<s.size):s.data.toList.take (k+1)=s.data.toList.take k++ [s[k]]:=by
 rw[List.take_succ_eq_append_getElem (by simpa using h)];rfl
theorem Xfg(s:ByteArray)(hs:4≤s.size)(hs2:s.size≤100)(w:World):
 Calls Tryz.prog 217 #[.string s] w fun e w'=>e= .returned (.int .i64 (Dcp.numF (s.data.toList.take 4)))∧w=w':=by
 go_enter Tryz.func217,Tryz.ntmps217;go_wp2_with fail;go_loopg [3,5] 4 (fun g n i wr=>∃k:Nat,k≤4∧i= .int .i64 k∧n= .int .i64 (Dcp.numF (s.data.toList.take k))∧g=4 - k∧wr=w)
 case atStart=>exact⟨0,by omega,rfl,rfl,rfl,rfl⟩
 case round=>
  obtain⟨k,hk,rfl,rfl,rfl,rfl⟩:=hrel;have hb:=Dcp.XzJ (s.data.toList.take k) (by rw[List.length_take];omega);by_cases hlt:k<4
  ·have l:(k:Int)<4:=by omega
   have j:k<s.size:=by omega
   have h:=XoB s k j;obtain⟨c,hc⟩: ∃c,s[k]=c:=⟨_,rfl⟩;obtain⟨x,hx⟩: ∃x,Dcp.numF (s.data.toList.take k)=x:=⟨_,rfl⟩;rw[hc] at h;have b:=Dcp.Xsi (s.data.toList.take k) c;rw[←h,hx] at b;rw[hx] at hb;have hd:=Dcp.X3C c;obtain⟨d,f⟩: ∃d,Dcp.hexD c=d:=⟨_,rfl⟩;rw[f] at hd b;have a:=XzB c;rw[f] at a;obtain⟨m,o⟩:=hb;obtain⟨p,q⟩:=hd;replace a:=hid a;replace b:=hid b;clear h f;go_wp2_with fail;refine(a.out _).mono ?_;rintro e w1 ⟨rfl,rfl⟩;go_wp2_with fail;go_roundg (4 - (k+1))
   case measure=>omega
   case rel=>exact⟨k+1,by omega,by go_num,by rw[b.out],rfl,rfl⟩
  ·obtain rfl:k=4:=by omega
   obtain⟨x,hx⟩: ∃x,Dcp.numF (s.data.toList.take 4)=x:=⟨_,rfl⟩;rw[hx];go_wp2_with fail;go_ret;exact⟨by rw[hx];rfl,rfl⟩
theorem X3u{L:List UInt8}{k:Nat}{xs:List Int}(__hk:k≤4)(h:xs++Dcp.madeF L (4 - k) k=Dcp.madeF L 4 0):xs.length≤4:=by
 have:=Dcp.XBP L 4 0;rw[←h,List.length_append] at this;omega
theorem XoC{L:List UInt8}{k:Nat}(hk:k<4):Dcp.madeF L (4 - k) k=if (L.drop ((1+k) *5)).headD 0=32 then [] else Dcp.numF ((L.drop ((1+k) *5)).take 4)::Dcp.madeF L (4 - (k+1)) (k+1):=by
 rw[show 4 - k=4 - (k+1)+1 by omega,Dcp.madeF]
theorem Xwx{L:List UInt8}(h:0<L.length):L.headD 0=L[0]:=by
 cases L with
 | nil=>simp at h
 | cons a t=>rfl
theorem Xwy(s:ByteArray)(hs:s.size=25)(w:World):
 Calls Tryz.prog 194 #[.string s] w fun e w'=>∃v,e= .returned v∧OwnI w.heap.size v (Dcp.madeF s.data.toList 4 0) w'∧Below w.heap.size w w':=by
 obtain⟨i0,hi,E,F,G⟩:=info_parts X2p;go_enter Tryz.func194,Tryz.ntmps194;go_wp2_with fail;go_loopg [3,6] 4 (fun g v i wr=>∃ (k:Nat) (xs:List Int),k≤4∧i= .int .i64 k∧xs++Dcp.madeF s.data.toList (4 - k) k=Dcp.madeF s.data.toList 4 0∧OwnI w.heap.size v xs wr∧Below w.heap.size w wr∧g=4 - k)
 case atStart=>exact⟨0,[],by omega,rfl,rfl,X0O _ _,Below.refl _ _,rfl⟩
 case round=>
  obtain⟨k,xs,hk,rfl,a,f,b,rfl⟩:=hrel;have K:=X3u hk a;by_cases hlt:k<4
  ·have H:(k:Int)<4:=by omega
   have I:(1+k) *5<s.size:=by omega
   rw[XoC hlt] at a;obtain⟨t,ht⟩: ∃t,s.extract ((1+k) *5) 25=t:=⟨_,rfl⟩;have u:t.data.toList=s.data.toList.drop ((1+k) *5):=by rw[←ht,Lib.extract_data];apply List.take_of_length_le;simp [hs]
   have B:t.size=25 - (1+k) *5:=by rw[←ht];simp [hs]
   have D:4≤t.size:=by omega
   have r:t.size≤100:=by omega
   have C:0<t.size:=by omega
   obtain⟨c,hc⟩: ∃c,t[0]=c:=⟨_,rfl⟩;have o:t.data.toList.headD 0=c:=by rw[Xwx (by simpa using C)];exact hc
   rw[←u,o] at a;replace u:=hid u;replace o:=hid o;replace B:=hid B;replace f:=hid f;replace b:=hid b;by_cases h32:c=32
   ·rw[if_pos h32,List.append_nil] at a;have y:((c.toNat:Int) == 32)=true:=by rw[h32];rfl
    replace a:=hid a;clear h32;go_wp2_with fail;go_ret;exact⟨_,rfl,Xdq f.out a.out,b.out⟩
   ·rw[if_neg h32] at a;have y:((c.toNat:Int) == 32)=false:=by
     refine beq_eq_false_iff_ne.2 fun e=>h32 (UInt8.toNat_inj.1 ?_)
     show c.toNat=32
     omega
    obtain⟨x,hx⟩: ∃x,Dcp.numF (t.data.toList.take 4)=x:=⟨_,rfl⟩;have j:=Xfg t D r wr;rw[hx] at a j;replace a:=hid a;replace hx:=hid hx;replace j:=hid j;clear h32;go_wp2_with fail;refine j.out.mono ?_;rintro e w1 ⟨rfl,rfl⟩;have h:=X0B f.out (.cells #[.int .i64 x] 3);have A:=X0Y (X0a (X0H w.heap.size wr [x] #[.int .i64 x] wr.heap.size 1 rfl b.out.size rfl rfl (by unfold maxLen;omega)));have d:=b.out.alloc b.out.size (.cells #[.int .i64 x] 3);have z:xs.length+ [x].length≤maxLen∧(xs.length+ [x].length) *8≤140737488355328:=by unfold maxLen;simp;omega
    replace h:=hid h;replace d:=hid d;go_wp2_with (at_builtin;refine X0c rfl _ _ 24 rfl w.heap.size 3 i0 (.int .i64 0) 8 Tryz.underlying24 hi E F G rfl _ _ _ rfl h.out _ _ rfl A (X0u [x]) (by simpa using z.1) (by simpa using z.2) d.out.size ?_;intro v5 w5 p m);have q:=X0i (l:=xs++ [x]) p (by simp) (by simp);have n:=X0k d.out m d.out.size h.out (Nat.le_refl _);go_roundg (4 - (k+1))
    case measure=>omega
    case rel=>exact⟨k+1,xs++ [x],by omega,by go_num,by rw[List.append_assoc];exact a.out,q,n,rfl⟩
  ·obtain rfl:k=4:=by omega
   rw[show Dcp.madeF s.data.toList (4 - 4) 4= [] from rfl,List.append_nil] at a;replace a:=hid a;replace f:=hid f;replace b:=hid b;go_wp2_with fail;go_ret;exact⟨_,rfl,Xdq f.out a.out,b.out⟩
theorem XiA(k:Nat)(hk:k<374): ∃h:k<Dcp.T.length,(rowB k).size=25∧Dcp.numF ((rowB k).data.toList.take 4)=Dcp.T[k].1∧Dcp.madeF (rowB k).data.toList 4 0=Dcp.T[k].2:=by
 have h:k<Dcp.T.length:=by rw[Dcp.rows];exact hk
 obtain⟨h1,h2,h3⟩:=Dcp.Xd0 (Dcp.Xn1 XzA k h);rw[←Xs3] at h1 h2 h3;exact⟨h,by simpa using h1,h2,h3⟩
theorem XzC(a b:Int)(w:World):Calls Tryz.prog 165 #[.int .i64 a, .int .i64 b] w fun e w'=>e= .returned (.int .i64 (Lib.compareInt a b))∧w=w':=
 (Tryz.cmp_Compare_int a b w).mono fun _ _ h=>⟨h.1,h.2.symm⟩
theorem XiB(r:Int)(k:Nat)(hk:k<374)(x:Int)(hx:(Dcp.T[k]'(by rw[Dcp.rows];exact hk)).1=x)(b:Nat)(w:World)(hc:w.cell? ⟨b,0,none⟩=some (.int .i64 r)):
 Calls Tryz.prog 216 #[.int .i64 k, .pointer (some ⟨b,0,none⟩)] w fun e w'=>e= .returned (.int .i64 (Lib.compareInt r x))∧∃n,w'=w.drewN n:=by
 obtain⟨h,f,hn,_⟩:=XiA k hk;have h4:4≤(rowB k).size:=by omega
 have c:(rowB k).size≤100:=by omega
 rw[hx] at hn;have d:=hid (Xs4 k hk);have a:=Xfg (rowB k) h4 c;rw[hn] at a;replace a:=hid a;obtain⟨s,hs⟩: ∃s,rowB k=s:=⟨_,rfl⟩;rw[hs] at d a;clear hs hn f h4 c hx;go_enter Tryz.func216,Tryz.ntmps216;go_wp2_with fail;go_quiet ((first | (go_at_call 218;exact Xpb (d.out _)) | (go_at_call 217;exact Xpb (a.out _)) | (go_at_call 165;exact Xpb (XzC _ _ _))));go_wp2_with fail;go_ret;exact⟨rfl,_,rfl⟩
theorem XzD(a b:Int):0<Lib.compareInt a b↔b<a:=by unfold Lib.compareInt;split <;> (try split) <;> omega
theorem Xwz(a b:Int):Lib.compareInt a b=0↔a=b:=by unfold Lib.compareInt;split <;> (try split) <;> omega
def XzE(r:Int)(w:World)(e:Ending)(w':World):Prop:=
 e= .returned (.tuple #[.int .i64 (Lk.pos Dcp.T r:Int), .bool (Lk.look Dcp.T r).isSome])∧∃n,w'=w.drewN n
theorem XiC(r:Int)(b:Nat)(w:World)(hc:w.cell? ⟨b,0,none⟩=some (.int .i64 r)):
 Calls Tryz.prog 215 #[.int .i64 374, .func (.func 216) #[] #[.pointer (some ⟨b,0,none⟩)]] w (XzE r w):=by
 have s:=Lk.Xtc Dcp.T r;rw[Dcp.rows] at s;obtain⟨p,hp⟩: ∃p,Lk.pos Dcp.T r=p:=⟨_,rfl⟩;rw[hp] at s;replace hp:=hid hp;replace hc:=hid hc;go_enter Tryz.func215,Tryz.ntmps215;go_wp2_with fail;go_loopg [4,6] 374 (fun g i j wr=>∃x y:Nat,i= .int .i64 x∧j= .int .i64 y∧x≤p∧p≤y∧y≤374∧g=y - x∧∃d,wr=w.drewN d)
 case atStart=>exact⟨0,374,rfl,rfl,Nat.zero_le _,s,Nat.le_refl _,rfl,0,rfl⟩
 case round=>
  obtain⟨x,y,rfl,rfl,hx,hy,A,rfl,d,rfl⟩:=hrel;by_cases hlt:x<y
  ·have t:(x:Int)<(y:Int):=by omega
   have hk:(x+y) / 2<374:=by omega
   obtain⟨q,hq⟩: ∃q,(Dcp.T[(x+y) / 2]'(by rw[Dcp.rows];exact hk)).1=q:=⟨_,rfl⟩;have k:=Lk.X57 Dcp.up r ((x+y) / 2) (by rw[Dcp.rows];exact hk);rw[hq,hp.out] at k;have a:=hid (XiB r _ hk q hq b (w.drewN d) (XBg d hc.out));replace hq:=hid hq;have m:=XzD r q;obtain⟨c,l⟩: ∃c,Lib.compareInt r q=c:=⟨_,rfl⟩;rw[l] at a m;clear l;by_cases hB:q<r
   ·have v:=k.1 hB;have hv:0<c:=m.2 hB;clear k m;go_wp2_with fail;refine a.out.mono ?_;rintro e w1 ⟨rfl,n,rfl⟩;go_wp2_with fail;go_roundg (y - ((x+y) / 2+1))
    case measure=>omega
    case rel=>exact⟨(x+y) / 2+1,y,by go_num,rfl,by omega,hy,A,rfl,_,rfl⟩
   ·have v: ¬(x+y) / 2<p:=fun h=>hB (k.2 h);have hv:decide (0<c)=false:=decide_eq_false fun h=>hB (m.1 h);clear k m;go_wp2_with fail;refine a.out.mono ?_;rintro e w1 ⟨rfl,n,rfl⟩;go_wp2_with fail;go_roundg ((x+y) / 2 - x)
    case measure=>omega
    case rel=>exact⟨x,(x+y) / 2,rfl,by go_num,hx,by omega,by omega,rfl,_,rfl⟩
  ·obtain rfl:x=p:=by omega
   have t:decide ((x:Int)<(y:Int))=false:=by simp;omega
   by_cases hxn:x<374
   ·have u:(x:Int)<374:=by omega
    have z:x<Dcp.T.length:=by rw[Dcp.rows];exact hxn
    obtain⟨q,hq⟩: ∃q,(Dcp.T[x]'z).1=q:=⟨_,rfl⟩;have a:=hid (XiB r _ hxn q hq b (w.drewN d) (XBg d hc.out));have o:=Xwz r q;obtain⟨c,l⟩: ∃c,Lib.compareInt r q=c:=⟨_,rfl⟩;rw[l] at a o;clear l;by_cases hA:r=q
    ·have hv:c=0:=o.2 hA;have f:=Lk.XbW Dcp.up r (by rw[hp.out];exact z) (by simp only[hp.out];rw[hq,hA]);subst hv;replace f:=hid f;replace hq:=hid hq;clear o;go_wp2_with fail;refine a.out.mono ?_;rintro e w1 ⟨rfl,n,rfl⟩;go_wp2_with fail
     go_ret2
     exact⟨by rw[hp.out,f.out];rfl,_,rfl⟩
    ·have hv:(c == 0)=false:=beq_eq_false_iff_ne.2 fun h=>hA (o.1 h);have f:=Lk.X8M Dcp.up r (fun _=>by simp only[hp.out];rw[hq];exact fun h=>hA h.symm);replace f:=hid f;replace hq:=hid hq;clear o;go_wp2_with fail;refine a.out.mono ?_;rintro e w1 ⟨rfl,n,rfl⟩;go_wp2_with fail
     go_ret2
     exact⟨by rw[hp.out,f.out];rfl,_,rfl⟩
   ·have u:decide ((x:Int)<374)=false:=by simp;omega
    have f:=Lk.X8M Dcp.up r (fun h=>absurd h (by rw[hp.out,Dcp.rows];omega));replace f:=hid f;go_wp2_with fail
    go_ret2
    exact⟨by rw[hp.out,f.out];rfl,_,rfl⟩
def XzF(r:Int)(w:World)(e:Ending)(w':World):Prop:=
 ∃s:ByteArray,e= .returned (.tuple #[.string s, .bool (Lk.look Dcp.T r).isSome])∧(∀p,Lk.look Dcp.T r=some p→s.size=25∧Dcp.madeF s.data.toList 4 0=p)∧Below w.heap.size w w'
theorem XiD(r:Int)(w:World):
 Calls Tryz.prog 193 #[.int .i64 r] w (XzF r w):=by
 cases a:Lk.look Dcp.T r with
 |
  none=>
  replace a:=hid a;go_enter Tryz.func193,Tryz.ntmps193;go_wp2_with fail;refine(XiC r w.heap.size _ (by simp)).mono ?_;rintro e w1 ⟨rfl,n,rfl⟩;rw[a.out];go_wp2_with fail
  go_ret2
  exact⟨⟨#[]⟩,by rw[a.out];rfl,(fun p h=>by rw[a.out] at h;cases h),(X04 _ _).trans ((X0U _ _).mono (by simp))⟩
 |
  some p=>
  obtain⟨g,f,hv⟩:=Lk.Xjb Dcp.up a;obtain⟨k,hk⟩: ∃k,Lk.pos Dcp.T r=k:=⟨_,rfl⟩;have b:k<374:=by rw[←hk,←Dcp.rows];exact g
  obtain⟨_,d,_,c⟩:=XiA k b;simp only[hk] at hv;rw[hv] at c;have i:=hid (Xs4 k b);replace d:=hid d;replace c:=hid c;replace a:=hid a;clear hv f g;go_enter Tryz.func193,Tryz.ntmps193;replace hk:=hid hk;go_wp2_with fail;refine(XiC r w.heap.size _ (by simp)).mono ?_;rintro e w1 ⟨rfl,n,rfl⟩;rw[a.out,hk.out];go_wp2_with fail;refine(i.out _).mono ?_;rintro e w1 ⟨rfl,rfl⟩;go_wp2_with fail
  go_ret2
  exact⟨rowB k,by rw[a.out];rfl,(fun q h=>by rw[a.out] at h;cases h;exact⟨d.out,c.out⟩),(X04 _ _).trans ((X0U _ _).mono (by simp))⟩
theorem Xbo(r:Int)(w:World):
 Calls Tryz.prog 190 #[.int .i64 r] w fun e w'=>e= .returned (.bool (decide (44032≤r) && decide (r≤55203)))∧w=w':=by
 by_cases h1:44032≤r
 ·by_cases h2:r≤55203;all_goals
   go_enter Tryz.func190,Tryz.ntmps190;go_wp2_with fail;go_ret;exact⟨by simp [h1,h2],rfl⟩
 ·have a:decide (44032≤r)=false:=by simpa using h1
  go_enter Tryz.func190,Tryz.ntmps190;go_wp2_with fail;go_ret;exact⟨by simp [h1],rfl⟩
theorem Xn0(r:Int)(w:World):
 Calls Tryz.prog 192 #[.int .i64 r] w fun e w'=>e= .returned (.bool (decide (65281≤r) && decide (r≤65374)))∧w=w':=by
 by_cases h1:65281≤r
 ·by_cases h2:r≤65374;all_goals
   go_enter Tryz.func192,Tryz.ntmps192;go_wp2_with fail;go_ret;exact⟨by simp [h1,h2],rfl⟩
 ·have a:decide (65281≤r)=false:=by simpa using h1
  go_enter Tryz.func192,Tryz.ntmps192;go_wp2_with fail;go_ret;exact⟨by simp [h1],rfl⟩
theorem Xlc(s:Int)(h0:0≤s)(h1:s<11172)(w:World):
 Calls Tryz.prog 191 #[.int .i64 s] w fun e w'=>∃v,e= .returned v∧OwnI w.heap.size v (Dcp.sylL s) w'∧Below w.heap.size w w':=by
 obtain⟨i0,hi,k,m,n⟩:=info_parts X2p;by_cases ht:s % 28=0
 ·have a:Dcp.sylL s= [0x1100+s / 588,0x1161+s % 588 / 28]:=by unfold Dcp.sylL;rw[if_pos ht]
  replace a:=hid a;go_enter Tryz.func191,Tryz.ntmps191;go_wp2_with fail;go_ret;exact⟨_,rfl,Xdq (X0H w.heap.size w [4352+s / 588,4449+s % 588 / 28] _ w.heap.size 2 rfl (Nat.le_refl _) rfl rfl (by unfold maxLen;omega)) a.out.symm,X04 _ _⟩
 ·have a:Dcp.sylL s= [0x1100+s / 588,0x1161+s % 588 / 28]++ [0x11A7+s % 28]:=by unfold Dcp.sylL;rw[if_neg ht];rfl
  replace a:=hid a;have o:0<s % 28:=by omega
  have p:s % 28<28:=by omega
  obtain⟨x,hx⟩: ∃x,4352+s / 588=x:=⟨_,rfl⟩;obtain⟨y,hy⟩: ∃y,4449+s % 588 / 28=y:=⟨_,rfl⟩;obtain⟨z,hz⟩: ∃z,4519+s % 28=z:=⟨_,rfl⟩;rw[hx,hy,hz] at a;have f:=X0H w.heap.size w [x,y] #[.int .i64 x, .int .i64 y] w.heap.size 2 rfl (Nat.le_refl _) rfl rfl (by unfold maxLen;omega);have j:=X0Y (X0a (X0H w.heap.size (w.alloc (.cells #[.int .i64 x, .int .i64 y] 3)) [z] #[.int .i64 z] (w.heap.size+1) 1 (by simp) (by omega) rfl rfl (by unfold maxLen;omega)));have c:=hid (X0B f (.cells #[.int .i64 z] 3));have b:=hid (((X04 w (.cells #[.int .i64 x, .int .i64 y] 3)).alloc (by simp) (.cells #[.int .i64 z] 3)))
  clear ht f;go_enter Tryz.func191,Tryz.ntmps191;go_wp2_with (at_builtin;refine X0c rfl _ _ 24 rfl w.heap.size 3 i0 (.int .i64 0) 8 Tryz.underlying24 hi k m n rfl _ _ _ rfl c.out _ _ rfl j (X0u [z]) (by unfold maxLen;simp) (by simp) b.out.size ?_;intro v5 w5 h d);have i:=X0i (l:= [x,y]++ [z]) h (by simp) (by simp);have g:=X0k b.out d b.out.size c.out (Nat.le_refl _);go_ret;exact⟨_,rfl,Xdq i a.out.symm,g⟩
def Xgz(l:List Int)(w:World)(e:Ending)(w':World):Prop:=∃v,e= .returned v∧OwnI w.heap.size v l w'∧Below w.heap.size w w'
theorem XiE(r:Int)(w:World):
 Calls Tryz.prog 169 #[.int .i64 r] w (Xgz (Dcp.fullI r) w):=by
 have a:=Xbo r;have b:=Xn0 r;by_cases h1:0xAC00≤r∧r≤0xD7A3
 ·have hf:=Dcp.X38 h1;obtain⟨k,m⟩:=h1;rw[show (decide (44032≤r) && decide (r≤55203))=true by simp [k,m]] at a;have hl:=Xlc (r - 44032) (by omega) (by omega);obtain⟨l,h⟩: ∃l,Dcp.sylL (r - 44032)=l:=⟨_,rfl⟩;rw[h] at hl hf;replace hl:=hid hl;replace a:=hid a;clear h b;rw[hf];clear hf;go_enter Tryz.func169,Tryz.ntmps169;go_wp2_with fail;refine(a.out _).mono ?_;rintro e w1 ⟨rfl,rfl⟩;go_wp2_with fail;refine(hl.out _).mono ?_;rintro e w1 ⟨v,rfl,hv,hb⟩;replace hv:=hid hv;replace hb:=hid hb;go_wp2_with fail;go_ret;exact⟨_,rfl,hv.out,hb.out⟩
 rw[show (decide (44032≤r) && decide (r≤55203))=false by simp;omega] at a;by_cases h2:0xFF01≤r∧r≤0xFF5E
 ·have hf:=Dcp.X3o h2;obtain⟨n,o⟩:=h2;rw[show (decide (65281≤r) && decide (r≤65374))=true by simp [n,o]] at b;replace a:=hid a;replace b:=hid b;clear h1;rw[hf];clear hf;go_enter Tryz.func169,Tryz.ntmps169;go_wp2_with fail;refine(a.out _).mono ?_;rintro e w1 ⟨rfl,rfl⟩;go_wp2_with fail;refine(b.out _).mono ?_;rintro e w1 ⟨rfl,rfl⟩;go_wp2_with fail;go_ret;exact⟨_,rfl,X0H _ _ [r - 65248] _ _ 1 rfl (Nat.le_refl _) rfl rfl (by unfold maxLen;omega),X04 _ _⟩
 rw[show (decide (65281≤r) && decide (r≤65374))=false by simp;omega] at b;replace a:=hid a;replace b:=hid b;have c:=XiD r;cases d:Lk.look Dcp.T r with
 |
  none=>
  have hf:Dcp.fullI r= [r]:=by unfold Dcp.fullI;rw[if_neg h1,if_neg h2,d];rfl
  rw[hf];clear hf h1 h2;replace d:=hid d;replace c:=hid c;go_enter Tryz.func169,Tryz.ntmps169;go_wp2_with fail;refine(a.out _).mono ?_;rintro e w1 ⟨rfl,rfl⟩;go_wp2_with fail;refine(b.out _).mono ?_;rintro e w1 ⟨rfl,rfl⟩;go_wp2_with fail;refine(c.out _).mono ?_;rintro e w1 ⟨s,rfl,_,hb⟩;rw[d.out];replace hb:=hid hb;go_wp2_with fail;go_ret;exact⟨_,rfl,X0H _ _ [r] _ _ 1 rfl hb.out.size rfl rfl (by unfold maxLen;omega),hb.out.alloc hb.out.size _⟩
 |
  some p=>
  have hf:Dcp.fullI r=p:=by unfold Dcp.fullI;rw[if_neg h1,if_neg h2,d];rfl
  rw[hf];clear hf h1 h2;replace d:=hid d;replace c:=hid c;go_enter Tryz.func169,Tryz.ntmps169;go_wp2_with fail;refine(a.out _).mono ?_;rintro e w1 ⟨rfl,rfl⟩;go_wp2_with fail;refine(b.out _).mono ?_;rintro e w1 ⟨rfl,rfl⟩;go_wp2_with fail;refine(c.out _).mono ?_;rintro e w1 ⟨s,rfl,hs,hb⟩;obtain⟨i,j⟩:=hs p d.out;have f:=Xwy s i;rw[j] at f;rw[d.out];replace hb:=hid hb;replace f:=hid f;clear i j hs;go_wp2_with fail;refine(f.out _).mono ?_;rintro e w2 ⟨v,rfl,hv,g⟩;replace hv:=hid (X0w hv hb.out.size);replace g:=hid (hb.out.trans (g.mono hb.out.size));go_wp2_with fail;go_ret;exact⟨_,rfl,hv.out,g.out⟩
theorem X4A(r:Int)(_: -9223372036854775808≤r∧r≤9223372036854775807)(w:World):Calls Tryz.prog 169 #[.int .i64 r] w (Xgz (Dcp.fullI r) w):=XiE r w
end Go.Proofs.YtkofnpkopbnocaaGreatDoor
