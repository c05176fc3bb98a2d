import Derived.Test.YtkofnpkopbnocaaGreatDoorBasP
import Derived.Test.YtkofnpkopbnocaaGreatDoorMthP
import Derived.KernelRfl
import Derived.Test.YtkofnpkopbnocaaGreatDoorPaP
import Derived.Deep.LoopGhost
import Derived.Deep.DeepCutAuto
set_option linter.unusedSimpArgs false
set_option linter.unusedVariables false
set_option maxHeartbeats 3200000
namespace Go.Proofs.YtkofnpkopbnocaaGreatDoor
open Go.RowKit Go.Lib
theorem Xsj(c:UInt8)(w:World):
 Calls Tryz.prog 183 #[.int .u8 (c.toNat:Int)] w fun e w'=>e= .returned (.int .i64 (Lk.digit c))∧w=w':=by
 have hc:=c.toNat_lt;obtain⟨n,hn⟩: ∃n:Nat,c.toNat=n:=⟨_,rfl⟩;unfold Lk.digit;rw[hn] at hc ⊢;clear hn;have a:(n:Int)<256:=by omega
 by_cases h:65≤n
 ·have h':65≤(n:Int):=by omega
  rw[if_pos h];go_enter Tryz.func183,Tryz.ntmps183;go_wp2_with fail;go_ret;exact⟨rfl,rfl⟩
 ·have h':decide (65≤(n:Int))=false:=by simp;omega
  rw[if_neg h];go_enter Tryz.func183,Tryz.ntmps183;go_wp2_with fail;go_ret;exact⟨rfl,rfl⟩
namespace Par
def scan(q:Int→Int→Int→Bool):List UInt8→Int→Int→Int→Int × Int × Int
 | [],_,_,_=>(0,0,0)
 |
  c::t,v,x,y=>
  if c.toNat=43 then scan q t 0 v y
  else if c.toNat=61 then scan q t 0 x v
  else if c.toNat=32 then (if q x y v=true then (x,y,v) else scan q t 0 x y)
  else scan q t (v *16+Lk.digit c) x y
def Xef:List UInt8→Int→Int→Int→List (Int × Int × Int)
 | [],_,_,_=> []
 |
  c::t,v,x,y=>
  if c.toNat=43 then Xef t 0 v y
  else if c.toNat=61 then Xef t 0 x v
  else if c.toNat=32 then (x,y,v)::Xef t 0 x y
  else Xef t (v *16+Lk.digit c) x y
def first(q:Int→Int→Int→Bool):List (Int × Int × Int)→Int × Int × Int
 | []=>(0,0,0)
 | s::t=>if q s.1 s.2.1 s.2.2=true then s else first q t
theorem XlC(q:Int→Int→Int→Bool)(bs:List UInt8)(v x y:Int):scan q bs v x y=first q (Xef bs v x y):=by
 induction bs generalizing v x y with
 | nil=>rfl
 |
  cons c t ih=>
  unfold scan Xef
  split
  ·exact ih _ _ _
  ·split
   ·exact ih _ _ _
   ·split
    ·unfold first
     split
     ·rfl
     ·exact ih _ _ _
    ·exact ih _ _ _
def bdd:List UInt8→Int→Bool
 | [],_=>true
 | c::t,v=>decide (0≤v) && decide (v<1048576) && (if c.toNat=43∨c.toNat=61∨c.toNat=32 then bdd t 0 else bdd t (v *16+Lk.digit c))
theorem XpR(l:List (Int × Int × Int))(a b:Int):(first (fun x y _=>decide (x=a∧y=b)) l).2.2=(lookJ l a b).getD 0:=by
 induction l with
 | nil=>rfl
 |
  cons s t ih=>
  unfold first lookJ
  split
  ·rename_i h;rw[if_pos (by simpa using h)];rfl
  ·rename_i h;rw[if_neg (by simpa using h)];exact ih
end Par
noncomputable def XnA(S:ByteArray):Code:=
 ((Go.Code.region 0 #[{ dst:=some 0,op:=Go.Op.assign (Go.Operand.const (Go.Value.string { data:= #[] })),type:=9,pos:= "ref.go:7",after:= #[],guard:=none }] false).seq ((Go.Code.region 1 #[{ dst:=some 0,op:=Go.Op.assign (Go.Operand.const (Go.Value.string S)),type:=9,pos:= "ref.go:8",after:= #[],guard:=none }] false).seq Go.Code.ret))
noncomputable def ptabS:ByteArray:=
 match Tryz.f212.body with
 |
  some (.seq _ (.seq (.region _ ops _) _))=>(match ops[0]? with
  | some o=>(match o.op with | .assign (.const (.string s))=>s | _=>⟨#[]⟩)
  | none=>⟨#[]⟩)
 | _=>⟨#[]⟩
theorem Xm1:Tryz.f212.body=some (XnA ptabS):=by kernel_rfl
theorem XfP:Par.Xef ptabS.data.toList 0 0 0=Par.T:=by decide+kernel
theorem Xun:Par.bdd ptabS.data.toList 0=true:=by decide+kernel
theorem XpT:ptabS.size≤100000:=by decide+kernel
theorem XpU(w:World):
 Calls Tryz.prog 212 #[] w fun e w'=>e= .returned (.string ptabS)∧w=w':=by
 have a:=Xm1;obtain⟨S,hS⟩: ∃S,ptabS=S:=⟨_,rfl⟩;rw[hS] at a ⊢;replace hS:=hid hS;refine calls_of_wp Tryz.func212 a ?_;clear a;unfold XnA;simp only[Tryz.ntmps212,List.size_toArray,List.length_nil,Nat.reduceSub,Array.replicate_succ,
  Array.replicate_zero,List.push_toArray,List.append_toArray,List.nil_append]
 go_wp2_with fail;go_ret;exact⟨rfl,rfl⟩
def tri(p:Int × Int × Int):Value:= .tuple #[.int .i64 p.1, .int .i64 p.2.1, .int .i64 p.2.2]
theorem XpV{L:List UInt8}{k:Nat}(h:k<L.length):L.drop k=L[k]::L.drop (k+1):=by rw[List.drop_eq_getElem_cons h]
def testB(a b r:Int)(x y v:Int):Bool:=if r<0 then decide (x=a∧y=b) else decide (v=r)
theorem XfQ(a b r:Int)(w:World):
 Calls Tryz.prog 187 #[.int .i64 a, .int .i64 b, .int .i64 r] w fun e w'=>e= .returned (tri (Par.scan (testB a b r) ptabS.data.toList 0 0 0))∧w=w':=by
 have l:=hid XpU;have s:=XpT;have i:=Xun;obtain⟨S,hS⟩: ∃S,ptabS=S:=⟨_,rfl⟩;rw[hS] at l s i ⊢;obtain⟨o,ho⟩: ∃o,Par.scan (testB a b r) S.data.toList 0 0 0=o:=⟨_,rfl⟩;rw[ho];replace hS:=hid hS;replace ho:=hid ho;replace i:=hid i;go_enter Tryz.func187,Tryz.ntmps187;go_wp2_with fail;refine(l.out _).mono ?_;rintro e w1 ⟨rfl,rfl⟩;go_wp2_with fail
 go_loopg [10,11,12,13] S.size (fun g vv vx vy vi wr=>∃ (k:Nat) (v x y:Int),k≤S.size∧vi= .int .i64 k∧vv= .int .i64 v∧vx= .int .i64 x∧vy= .int .i64 y∧wr=w∧g=S.size - k∧Hid (Par.scan (testB a b r) (S.data.toList.drop k) v x y=o)∧Hid (Par.bdd (S.data.toList.drop k) v=true))
 case atStart=>exact⟨0,0,0,0,Nat.zero_le _,rfl,rfl,rfl,rfl,rfl,rfl,ho,i⟩
 case round=>
  obtain⟨k,v,x,y,hk,rfl,rfl,rfl,rfl,rfl,rfl,f,h⟩:=hrel;replace f:=f.out;replace h:=h.out;by_cases hlt:k<S.size
  ·have p:(k:Int)<(S.size:Int):=by omega
   have j:=XpV (L:=S.data.toList) (k:=k) (by simpa using hlt);obtain⟨c,hc⟩: ∃c,S[k]=c:=⟨_,rfl⟩;rw[show S.data.toList[k]'(by simpa using hlt)=c from hc] at j;rw[j,Par.scan] at f;rw[j,Par.bdd] at h;simp only[Bool.and_eq_true,decide_eq_true_eq] at h;obtain⟨⟨A,B⟩,h⟩:=h;clear j;by_cases h43:c.toNat=43
   ·rw[if_pos h43] at f;rw[if_pos (by omega)] at h;have e1:((c.toNat:Int) == 43)=true:=by rw[h43];rfl
    replace f:=hid f;replace h:=hid h;clear h43;go_wp2_with fail;go_roundg (S.size - (k+1))
    case measure=>omega
    case rel=>exact⟨k+1,0,v,y,by omega,by go_num,rfl,rfl,rfl,rfl,rfl,f,h⟩
   rw[if_neg h43] at f;have e1:((c.toNat:Int) == 43)=false:=by simp;omega
   by_cases h61:c.toNat=61
   ·rw[if_pos h61] at f;rw[if_pos (by omega)] at h;have e2:((c.toNat:Int) == 61)=true:=by rw[h61];rfl
    replace f:=hid f;replace h:=hid h;clear h61 h43;go_wp2_with fail;go_roundg (S.size - (k+1))
    case measure=>omega
    case rel=>exact⟨k+1,0,x,v,by omega,by go_num,rfl,rfl,rfl,rfl,rfl,f,h⟩
   rw[if_neg h61] at f;have e2:((c.toNat:Int) == 61)=false:=by simp;omega
   by_cases h32:c.toNat=32
   ·rw[if_pos h32] at f;rw[if_pos (by omega)] at h;have e3:((c.toNat:Int) == 32)=true:=by rw[h32];rfl
    replace h:=hid h;clear h61 h43 h32;unfold testB at f;by_cases hr:r<0
    ·have q:decide (0≤r)=false:=by simp;omega
     rw[if_pos hr] at f;by_cases hxa:x=a
     ·by_cases hyb:y=b
      ·rw[if_pos (by simp [hxa,hyb])] at f;subst hxa hyb f;go_wp2_with fail;exact bodyPost_ret (v:= .tuple #[.int .i64 x, .int .i64 y, .int .i64 v]) (by simp [results,Tryz.results187,go_sem]) rfl ⟨rfl,rfl⟩
      ·rw[if_neg (by simp [hyb])] at f;have e5:(y == b)=false:=beq_eq_false_iff_ne.2 hyb;subst hxa;replace f:=hid f;clear hyb;go_wp2_with fail;go_roundg (S.size - (k+1))
       case measure=>omega
       case rel=>exact⟨k+1,0,x,y,by omega,by go_num,rfl,rfl,rfl,rfl,rfl,hid (by unfold testB;exact f.out),h⟩
     ·rw[if_neg (by simp [hxa])] at f;have e4:(x == a)=false:=beq_eq_false_iff_ne.2 hxa;replace f:=hid f;clear hxa;go_wp2_with fail;go_roundg (S.size - (k+1))
      case measure=>omega
      case rel=>exact⟨k+1,0,x,y,by omega,by go_num,rfl,rfl,rfl,rfl,rfl,hid (by unfold testB;exact f.out),h⟩
    ·have z:decide (r<0)=false:=decide_eq_false hr;have q:0≤r:=by omega
     rw[if_neg hr] at f;by_cases hvr:v=r
     ·rw[if_pos (by simp [hvr])] at f;subst hvr f;go_wp2_with fail;exact bodyPost_ret (v:= .tuple #[.int .i64 x, .int .i64 y, .int .i64 v]) (by simp [results,Tryz.results187,go_sem]) rfl ⟨rfl,rfl⟩
     ·rw[if_neg (by simp [hvr])] at f;have e5:(v == r)=false:=beq_eq_false_iff_ne.2 hvr;replace f:=hid f;clear hvr;go_wp2_with fail;go_roundg (S.size - (k+1))
      case measure=>omega
      case rel=>exact⟨k+1,0,x,y,by omega,by go_num,rfl,rfl,rfl,rfl,rfl,hid (by unfold testB;exact f.out),h⟩
   ·have e3:((c.toNat:Int) == 32)=false:=by simp;omega
    rw[if_neg h32] at f;rw[if_neg (by omega)] at h;have n:=Lk.Xx5 c;have hd:=Xsj c;obtain⟨d,m⟩: ∃d,Lk.digit c=d:=⟨_,rfl⟩;rw[m] at f h n hd;obtain⟨t,u⟩:=n;replace hd:=hid hd;replace f:=hid f;replace h:=hid h;clear h32 h61 h43 m;go_wp2_with fail;refine(hd.out _).mono ?_;rintro e w1 ⟨rfl,rfl⟩;go_wp2_with fail;go_roundg (S.size - (k+1))
    case measure=>omega
    case rel=>exact⟨k+1,v *16+d,x,y,by omega,by go_num,rfl,rfl,rfl,rfl,rfl,f,h⟩
  ·obtain rfl:k=S.size:=by omega
   have p:decide ((S.size:Int)<(S.size:Int))=false:=by simp
   rw[List.drop_of_length_le (by simp),Par.scan] at f;subst f;clear ho h;go_wp2_with fail;exact bodyPost_ret (v:= .tuple #[.int .i64 0, .int .i64 0, .int .i64 0]) (by simp [results,Tryz.results187,go_sem]) rfl ⟨rfl,rfl⟩
open Go.RowKit Go.Lib
theorem XpW(a b:Int)(w:World):
 Calls Tryz.prog 187 #[.int .i64 a, .int .i64 b, .int .i64 (-1)] w fun e w'=>∃x y:Int,e= .returned (.tuple #[.int .i64 x, .int .i64 y, .int .i64 ((Par.lookJ Par.T a b).getD 0)])∧w=w':=by
 refine(XfQ a b (-1) w).mono ?_;rintro e w' ⟨rfl,rfl⟩;have h:testB a b (-1)=fun x y _=>decide (x=a∧y=b):=by
  funext x y v;unfold testB;rw[if_pos (by decide)]
 rw[Par.XlC,XfP,h];exact⟨_,_,by rw[←Par.XpR];rfl,rfl⟩
theorem XxF(a b:Int)(w:World)(h1: ¬Par.LV a b)(h2: ¬Par.LVT a b):
 Calls Tryz.prog 162 #[.int .i64 a, .int .i64 b] w fun e w'=>e= .returned (optI (Par.lookJ Par.T a b))∧w=w':=by
 have hf:=XpW a b;have f: ∀z,Par.lookJ Par.T a b=some z→0<z:=fun z h=>(Par.XaL _ (Par.X7B h)).2.2.2.2.1;unfold Par.LV at h1;unfold Par.LVT at h2;obtain⟨o,ho⟩: ∃o,Par.lookJ Par.T a b=o:=⟨_,rfl⟩;rw[ho] at hf f ⊢;clear ho;obtain⟨z,hz⟩: ∃z,o.getD 0=z:=⟨_,rfl⟩;rw[hz] at hf;replace hf:=hid hf;have g:optI o= .tuple #[.int .i64 z, .bool (decide (0<z))]:=by
  cases o with
  | none=>subst hz;rfl
  | some x=>obtain rfl:x=z:=hz;unfold optI;simp [f x rfl]
 rw[g];clear g hz f;obtain⟨s,hs⟩: ∃s,a - 44032=s:=⟨_,rfl⟩;replace hs:=hid hs;rcases Int.lt_or_le a 4352 with c | c
 ·have e1:decide (4352≤a)=false:=decide_eq_false (by omega);have e5:decide (44032≤a)=false:=decide_eq_false (by omega);clear h1 h2 c;go_enter Tryz.func162,Tryz.ntmps162;go_wp2_with fail;refine(hf.out _).mono ?_;rintro e w1 ⟨x,y,rfl,rfl⟩;go_wp2_with fail
  go_ret2
  exact⟨rfl,rfl⟩
 rcases Int.lt_or_le 4370 a with d | d
 ·have e1:decide (a≤4370)=false:=decide_eq_false (by omega);rcases Int.lt_or_le a 44032 with k | k
  ·have e5:decide (44032≤a)=false:=decide_eq_false (by omega);clear h1 h2 d k;go_enter Tryz.func162,Tryz.ntmps162;go_wp2_with fail;refine(hf.out _).mono ?_;rintro e w1 ⟨x,y,rfl,rfl⟩;go_wp2_with fail
   go_ret2
   exact⟨rfl,rfl⟩
  rcases Int.lt_or_le 55203 a with m | m
  ·have e5:decide (a≤55203)=false:=decide_eq_false (by omega);clear h1 h2 d m;go_enter Tryz.func162,Tryz.ntmps162;go_wp2_with fail;refine(hf.out _).mono ?_;rintro e w1 ⟨x,y,rfl,rfl⟩;go_wp2_with fail
   go_ret2
   exact⟨rfl,rfl⟩
  have i:0≤s:=by have:=hs.out;omega
  have j:s<11172:=by have:=hs.out;omega
  by_cases q:s % 28=0
  ·rcases Int.lt_or_le b 4520 with u | u
   ·have e6:decide (4520≤b)=false:=decide_eq_false (by omega);clear h1 h2 d u;have hs:=hs.out;go_enter Tryz.func162,Tryz.ntmps162;go_wp2_with fail;refine(hf.out _).mono ?_;rintro e w1 ⟨x,y,rfl,rfl⟩;go_wp2_with fail
    go_ret2
    exact⟨rfl,rfl⟩
   ·have e6:decide (b≤4546)=false:=decide_eq_false (by have:=hs.out;omega);clear h1 h2 d;have hs:=hs.out;go_enter Tryz.func162,Tryz.ntmps162;go_wp2_with fail;refine(hf.out _).mono ?_;rintro e w1 ⟨x,y,rfl,rfl⟩;go_wp2_with fail
    go_ret2
    exact⟨rfl,rfl⟩
  ·have e6:(s % 28 == 0)=false:=beq_eq_false_iff_ne.2 q;clear h1 h2 d q;have hs:=hs.out;go_enter Tryz.func162,Tryz.ntmps162;go_wp2_with fail;refine(hf.out _).mono ?_;rintro e w1 ⟨x,y,rfl,rfl⟩;go_wp2_with fail
   go_ret2
   exact⟨rfl,rfl⟩
 have e5:decide (44032≤a)=false:=decide_eq_false (by omega);rcases Int.lt_or_le b 4449 with u | u
 ·have e6:decide (4449≤b)=false:=decide_eq_false (by omega);clear h1 h2 u;go_enter Tryz.func162,Tryz.ntmps162;go_wp2_with fail;refine(hf.out _).mono ?_;rintro e w1 ⟨x,y,rfl,rfl⟩;go_wp2_with fail
  go_ret2
  exact⟨rfl,rfl⟩
 ·have e6:decide (b≤4469)=false:=decide_eq_false (by omega);clear h1 h2;go_enter Tryz.func162,Tryz.ntmps162;go_wp2_with fail;refine(hf.out _).mono ?_;rintro e w1 ⟨x,y,rfl,rfl⟩;go_wp2_with fail
  go_ret2
  exact⟨rfl,rfl⟩
theorem XnB{x y:Int}(h:x=y):Ending.returned (.tuple #[.int .i64 x, .bool true])= .returned (optI (some y)):=by rw[h];rfl
theorem Xuo(a b:Int)(w:World):
 Calls Tryz.prog 162 #[.int .i64 a, .int .i64 b] w fun e w'=>e= .returned (optI (Par.joinI a b))∧w=w':=by
 unfold Par.joinI;by_cases h1:Par.LV a b
 ·rw[if_pos h1];unfold Par.LV at h1;obtain⟨c1,c2,c3,c4⟩:=h1;go_enter Tryz.func162,Tryz.ntmps162;go_wp2_with fail
  go_ret2
  exact⟨XnB (by omega),rfl⟩
 rw[if_neg h1];by_cases h2:Par.LVT a b
 ·rw[if_pos h2];unfold Par.LVT at h2;obtain⟨c1,c2,c3,c4,c5⟩:=h2;have e1:decide (a≤4370)=false:=decide_eq_false (by omega);clear h1;obtain⟨s,hs⟩: ∃s,a - 44032=s:=⟨_,rfl⟩;have d:0≤s:=by omega
  have f:s<11172:=by omega
  have c:s % 28=0:=by omega
  clear c3;go_enter Tryz.func162,Tryz.ntmps162;go_wp2_with fail
  go_ret2
  exact⟨XnB (by omega),rfl⟩
 rw[if_neg h2];exact XxF a b w h1 h2
end Go.Proofs.YtkofnpkopbnocaaGreatDoor
