import Derived.Test.YtkofnpkopbnocaaGreatDoorBasP
import Derived.Test.YtkofnpkopbnocaaGreatDoorMthP
import Derived.Test.YtkofnpkopbnocaaGreatDoorPaRP
import Derived.Deep.LoopGhost
import Derived.Deep.DeepCutAuto
import Derived.KernelRfl
set_option linter.unusedSimpArgs false
set_option linter.unusedVariables false
set_option maxHeartbeats 1600000
namespace Go.Proofs.YtkofnpkopbnocaaGreatDoor
open Go.RowKit Go.Lib
noncomputable def Xs8(S:ByteArray):Code:=
 ((Go.Code.region 0 #[{ dst:=some 0,op:=Go.Op.assign (Go.Operand.const (Go.Value.string { data:= #[] })),type:=9,pos:= "ref.go:5",after:= #[],guard:=none }] false).seq ((Go.Code.region 1 #[{ dst:=some 0,op:=Go.Op.assign (Go.Operand.const (Go.Value.string S)),type:=9,pos:= "ref.go:6",after:= #[],guard:=none }] false).seq Go.Code.ret))
noncomputable def tabS:ByteArray:=
 match Tryz.f153.body with
 |
  some (.seq _ (.seq (.region _ ops _) _))=>(match ops[0]? with
  | some o=>(match o.op with | .assign (.const (.string s))=>s | _=>⟨#[]⟩)
  | none=>⟨#[]⟩)
 | _=>⟨#[]⟩
theorem XoE:Tryz.f153.body=some (Xs8 tabS):=by kernel_rfl
theorem Xs9:Lk.rows tabS.data.toList [] 0=Dcp.T:=by decide+kernel
theorem Xsa:tabS.size≤100000:=by decide+kernel
theorem X64(w:World):
 Calls Tryz.prog 153 #[] w fun e w'=>e= .returned (.string tabS)∧w=w':=by
 have a:=XoE;obtain⟨S,hS⟩: ∃S,tabS=S:=⟨_,rfl⟩;rw[hS] at a ⊢;replace hS:=hid hS;refine calls_of_wp Tryz.func153 a ?_;clear a;unfold Xs8;simp only[Tryz.ntmps153,List.size_toArray,List.length_cons,List.length_nil,Nat.reduceAdd,Nat.reduceSub,Array.replicate_succ,
  Array.replicate_zero,List.push_toArray,List.append_toArray,List.nil_append,List.cons_append]
 go_wp2_with fail;go_ret;exact⟨rfl,rfl⟩
def XyB(o:Option (List Int))(w:World)(e:Ending)(w':World):Prop:=
 ∃v,e= .returned (.tuple #[v, .bool o.isSome])∧RI w' v (o.getD [])∧Below w.heap.size w w'
theorem Xsb{L:List UInt8}{k:Nat}(h:k<L.length):L.drop k=L[k]::L.drop (k+1):=by rw[List.drop_eq_getElem_cons h]
theorem Xsc{l:List Int}{x:Int}(h:0<(l++ [x]).length):(l++ [x])[0]=(l++ [x]).headD 0:=by
 cases l with
 | nil=>rfl
 | cons a t=>rfl
theorem Xsd(l:List Int):l.tail=l.drop 1:=by cases l <;> rfl
theorem XiF{B:Nat}{v:Value}{l:List Int}{x h:Int}{w:World}(hown:OwnI B v (l++ [x]) w)(hl:1≤l.length)(hh:(l++ [x]).headD 0=h):
 ∃g cap,v= .slice (some ⟨g,0,none⟩) (l.length+1) cap∧l.length+1≤cap∧1<cap∧w.cell? ⟨g,0,none⟩=some (.int .i64 h)∧RI w (.slice (some ⟨g,1,none⟩) l.length (cap - 1)) (l++ [x]).tail:=by
 obtain⟨g,cap,rfl,hB,k,i⟩:=X9K hown (by simp);have j:=X0a hown;have e:(l++ [x]).length≤cap:=by
  rcases j with⟨h,_⟩ | ⟨a,c,he,hc,_⟩
  ·simp at h
  ·simp at he;have:=he.2;omega
 have f:(l++ [x]).length=l.length+1:=by simp
 obtain⟨b,off,he,d⟩:=XEa j 1 (by omega);simp at he;obtain⟨rfl,rfl⟩:=he;rw[←Xsd,f] at d;have h0:=i 0 (by simp);rw[Xsc (by simp),hh] at h0;rw[f] at e ⊢;exact⟨g,cap,rfl,e,by omega,h0,by simpa using d⟩
theorem Xse(S:ByteArray)(r:Int)(hS:S.size≤100000)(hb:Lk.bdd S.data.toList 0 0=true)(w:World):
 Calls Tryz.prog 152 #[.string S, .int .i64 r] w (XyB (Lk.scan S.data.toList [] 0 r) w):=by
 obtain⟨i0,hi,C,D,E⟩:=info_parts X2p;obtain⟨o,ho⟩: ∃o,Lk.scan S.data.toList [] 0 r=o:=⟨_,rfl⟩;rw[ho];replace hb:=hid hb;replace ho:=hid ho;go_enter Tryz.func152,Tryz.ntmps152;go_wp2_with fail;go_loopg [6,7,8] S.size (fun g lv v i wr=>∃ (k:Nat) (l:List Int) (x:Int),k≤S.size∧i= .int .i64 k∧v= .int .i64 x∧OwnI w.heap.size lv l wr∧Below w.heap.size w wr∧Lk.scan (S.data.toList.drop k) l x r=o∧Lk.bdd (S.data.toList.drop k) x l.length=true∧l.length≤k∧g=S.size - k)
 case atStart=>exact⟨0,[],0,Nat.zero_le _,rfl,rfl,X0O _ _,Below.refl _ _,ho.out,hb.out,Nat.le_refl _,rfl⟩
 case round=>
  obtain⟨k,l,x,hk,rfl,rfl,u,t,f,y,T,rfl⟩:=hrel;by_cases hlt:k<S.size
  ·have O:(k:Int)<(S.size:Int):=by omega
   have G:=Xsb (L:=S.data.toList) (k:=k) (by simpa using hlt);obtain⟨c,hc⟩: ∃c,S[k]=c:=⟨_,rfl⟩;rw[show S.data.toList[k]'(by simpa using hlt)=c from hc] at G;rw[G] at f y;have hv:=Lk.bdd_v y;obtain⟨U,V⟩:=hv;have z:l.length+ [x].length≤maxLen∧(l.length+ [x].length) *8≤140737488355328:=by unfold maxLen;simp;omega
   have m:=X0B u (.cells #[.int .i64 x] 3);have A:=X0Y (X0a (X0H w.heap.size wr [x] #[.int .i64 x] wr.heap.size 1 rfl t.size rfl rfl (by unfold maxLen;omega)));have a:=t.alloc t.size (.cells #[.int .i64 x] 3);replace m:=hid m;replace a:=hid a;replace u:=hid u;replace t:=hid t;clear G;by_cases s:c.toNat=61∨c.toNat=44
   ·rw[Lk.XDv s] at f;have q:=hid (Lk.XEj y s);replace f:=hid f;clear y;rcases s with s | s
    ·have e1:((c.toNat:Int) == 61)=true:=by rw[s];rfl
     clear s;go_wp2_with (at_builtin;refine X0c rfl _ _ 24 rfl w.heap.size 3 i0 (.int .i64 0) 8 Tryz.underlying24 hi C D E rfl _ _ _ rfl m.out _ _ rfl A (X0u [x]) (by simpa using z.1) (by simpa using z.2) a.out.size ?_;intro v5 w5 n b);have p:=X0i (l:=l++ [x]) n (by simp) (by simp);have j:=X0k a.out b a.out.size m.out (Nat.le_refl _);go_roundg (S.size - (k+1))
     case measure=>omega
     case rel=>exact⟨k+1,l++ [x],0,by omega,by go_num,rfl,p,j,f.out,by simpa using q.out,by simp;omega,rfl⟩
    ·have e1:((c.toNat:Int) == 61)=false:=by rw[s];rfl
     have e2:((c.toNat:Int) == 44)=true:=by rw[s];rfl
     clear s;go_wp2_with (at_builtin;refine X0c rfl _ _ 24 rfl w.heap.size 3 i0 (.int .i64 0) 8 Tryz.underlying24 hi C D E rfl _ _ _ rfl m.out _ _ rfl A (X0u [x]) (by simpa using z.1) (by simpa using z.2) a.out.size ?_;intro v5 w5 n b);have p:=X0i (l:=l++ [x]) n (by simp) (by simp);have j:=X0k a.out b a.out.size m.out (Nat.le_refl _);go_roundg (S.size - (k+1))
     case measure=>omega
     case rel=>exact⟨k+1,l++ [x],0,by omega,by go_num,rfl,p,j,f.out,by simpa using q.out,by simp;omega,rfl⟩
   ·have e1:((c.toNat:Int) == 61)=false:=by simp;omega
    have e2:((c.toNat:Int) == 44)=false:=by simp;omega
    by_cases h32:c.toNat=32
    ·have e3:((c.toNat:Int) == 32)=true:=by rw[h32];rfl
     rw[Lk.XEi h32] at f;obtain⟨N,q⟩:=Lk.XEW y h32;replace q:=hid q;clear y h32 s;obtain⟨h,hh⟩: ∃h,(l++ [x]).headD 0=h:=⟨_,rfl⟩;rw[hh] at f;replace hh:=hid hh;by_cases hr0:h=r
     ·rw[if_pos hr0] at f;have e4:(h == r)=true:=by simp [hr0]
      replace f:=hid f;clear hr0;go_wp2_with (at_builtin;refine X0c rfl _ _ 24 rfl w.heap.size 3 i0 (.int .i64 0) 8 Tryz.underlying24 hi C D E rfl _ _ _ rfl m.out _ _ rfl A (X0u [x]) (by simpa using z.1) (by simpa using z.2) a.out.size ?_;intro v5 w5 n b;have p:=X0i (l:=l++ [x]) n (by simp) (by simp);have j:=X0k a.out b a.out.size m.out (Nat.le_refl _);have H:=XiF p N hh.out;clear n b;obtain⟨g,cap,rfl,I,F,c0,B⟩:=H;replace j:=hid j;replace B:=hid B;clear p)
      go_ret2
      exact⟨_,by rw[←f.out];rfl,by rw[←f.out];exact B.out,j.out⟩
     ·rw[if_neg hr0] at f;have e4:(h == r)=false:=by simp [hr0]
      replace f:=hid f;clear hr0;go_wp2_with (at_builtin;refine X0c rfl _ _ 24 rfl w.heap.size 3 i0 (.int .i64 0) 8 Tryz.underlying24 hi C D E rfl _ _ _ rfl m.out _ _ rfl A (X0u [x]) (by simpa using z.1) (by simpa using z.2) a.out.size ?_;intro v5 w5 n b;have p:=X0i (l:=l++ [x]) n (by simp) (by simp);have j:=X0k a.out b a.out.size m.out (Nat.le_refl _);have H:=XiF p N hh.out;clear n b;obtain⟨g,cap,rfl,I,F,c0,B⟩:=H;replace j:=hid j;replace B:=hid B;clear p);go_roundg (S.size - (k+1))
      case measure=>omega
      case rel=>exact⟨k+1,[],0,by omega,by go_num,rfl,X0O _ _,j.out,f.out,q.out,by simp,rfl⟩
    ·have e3:((c.toNat:Int) == 32)=false:=by simp;omega
     rw[Lk.XDw s h32] at f;have q:=Lk.XEk y s h32;have M:=Lk.Xx5 c;have hd:=Xsj c;obtain⟨d,K⟩: ∃d,Lk.digit c=d:=⟨_,rfl⟩;rw[K] at f q M hd;obtain⟨P,R⟩:=M;replace hd:=hid hd;replace f:=hid f;replace q:=hid q;clear y h32 s K;go_wp2_with fail;refine(hd.out _).mono ?_;rintro e w1 ⟨rfl,rfl⟩;go_wp2_with fail;go_roundg (S.size - (k+1))
     case measure=>omega
     case rel=>exact⟨k+1,l,x *16+d,by omega,by go_num,rfl,u.out,t.out,f.out,q.out,by omega,rfl⟩
  ·obtain rfl:k=S.size:=by omega
   have O:decide ((S.size:Int)<(S.size:Int))=false:=by simp
   rw[List.drop_of_length_le (by simp),Lk.scan] at f;subst f;replace u:=hid u;replace t:=hid t;clear ho y;go_wp2_with fail
   go_ret2
   exact⟨_,rfl,X9J _,t.out⟩
theorem XwC:Lk.bdd tabS.data.toList 0 0=true:=by decide+kernel
def XgB(l:List Int)(w:World)(e:Ending)(w':World):Prop:=∃v,e= .returned v∧RI w' v l∧Below w.heap.size w w'
theorem XwD(r:Int)(w:World):Calls Tryz.prog 152 #[.string tabS, .int .i64 r] w (XyB (Lk.look Dcp.T r) w):=by
 have h:=Xse tabS r Xsa XwC w;rw[Lk.XlC,Xs9] at h;exact h
theorem XaU(r:Int)(w:World):
 Calls Tryz.prog 120 #[.int .i64 r] w (XgB (Dcp.fullI r) w):=by
 obtain⟨i0,hi,q,t,u⟩:=info_parts X2p;by_cases h1:0xAC00≤r∧r≤0xD7A3
 ·have hf:=Dcp.X38 h1;obtain⟨B,C⟩:=h1;rw[hf];clear hf;obtain⟨s,hs⟩: ∃s,r - 44032=s:=⟨_,rfl⟩;rw[hs];have n:0≤s∧s<11172:=by omega
  obtain⟨H,I⟩:=n;obtain⟨x,hx⟩: ∃x,4352+s / 588=x:=⟨_,rfl⟩;obtain⟨y,hy⟩: ∃y,4449+s % 588 / 28=y:=⟨_,rfl⟩;by_cases ht:s % 28=0
  ·have b:Dcp.sylL s= [0x1100+s / 588,0x1161+s % 588 / 28]:=by unfold Dcp.sylL;rw[if_pos ht]
   rw[hx,hy] at b;replace b:=hid b;go_enter Tryz.func120,Tryz.ntmps120;go_wp2_with fail;go_ret;exact⟨_,rfl,X6z (X0a (X0H w.heap.size w [x,y] _ w.heap.size 2 rfl (Nat.le_refl _) rfl rfl (by unfold maxLen;omega))) b.out.symm,X04 _ _⟩
  ·have b:Dcp.sylL s= [0x1100+s / 588,0x1161+s % 588 / 28]++ [0x11A7+s % 28]:=by unfold Dcp.sylL;rw[if_neg ht];rfl
   have K:(s % 28 == 0)=false:=by simpa using ht
   have L:(s % 28 != 0)=true:=by simpa using ht
   obtain⟨z,hz⟩: ∃z,4519+s % 28=z:=⟨_,rfl⟩;rw[hx,hy,hz] at b;replace b:=hid b;have g:=X0H w.heap.size w [x,y] #[.int .i64 x, .int .i64 y] w.heap.size 2 rfl (Nat.le_refl _) rfl rfl (by unfold maxLen;omega);have m:=X0Y (X0a (X0H w.heap.size (w.alloc (.cells #[.int .i64 x, .int .i64 y] 3)) [z] #[.int .i64 z] (w.heap.size+1) 1 (by simp) (by omega) rfl rfl (by unfold maxLen;omega)));have d:=hid (X0B g (.cells #[.int .i64 z] 3));have c:=hid (((X04 w (.cells #[.int .i64 x, .int .i64 y] 3)).alloc (by simp) (.cells #[.int .i64 z] 3)));clear ht g;go_enter Tryz.func120,Tryz.ntmps120
   go_wp2_with (at_builtin;refine X0c rfl _ _ 24 rfl w.heap.size 3 i0 (.int .i64 0) 8 Tryz.underlying24 hi q t u rfl _ _ _ rfl d.out _ _ rfl m (X0u [z]) (by unfold maxLen;simp) (by simp) c.out.size ?_;intro v5 w5 j f);have k:=X0i (l:= [x,y]++ [z]) j (by simp) (by simp);have i:=X0k c.out f c.out.size d.out (Nat.le_refl _);go_ret;exact⟨_,rfl,X6z (X0a k) b.out.symm,i⟩
 have f1:(decide (44032≤r) && decide (r≤55203))=false:=by simp;omega
 by_cases h2:0xFF01≤r∧r≤0xFF5E
 ·have hf:=Dcp.X3o h2;obtain⟨D,E⟩:=h2;have F:44032≤r:=by omega
  have G:decide (r≤55203)=false:=by simp;omega
  clear h1 f1;rw[hf];clear hf;go_enter Tryz.func120,Tryz.ntmps120;go_wp2_with fail;go_ret;exact⟨_,rfl,X0a (X0H w.heap.size _ [r - 65248] _ _ 1 rfl (Nat.le_refl _) rfl rfl (by unfold maxLen;omega)),X04 _ _⟩
 have hl:=hid (XwD r);have A: ∀ (o:Option (List Int)),Lk.look Dcp.T r=o→Calls Tryz.prog 120 #[.int .i64 r] w (XgB (o.getD [r]) w):=by
  intro o ho;rw[ho] at hl;clear ho;by_cases ha:44032≤r
  ·have hb:decide (r≤55203)=false:=by simp;omega
   by_cases hc:65281≤r
   ·have hd:decide (r≤65374)=false:=by simp;omega
    clear h1 h2 f1;cases o with
    |
     none=>
     go_enter Tryz.func120,Tryz.ntmps120;go_wp2_with fail;refine(X64 _).mono ?_;rintro e w1 ⟨rfl,rfl⟩;go_wp2_with fail;refine(hl.out _).mono ?_;rintro e w1 ⟨v,rfl,hv,a⟩;replace hv:=hid hv;replace a:=hid a;go_wp2_with fail;go_ret;exact⟨_,rfl,X0a (X0H w1.heap.size _ [r] _ _ 1 rfl (Nat.le_refl _) rfl rfl (by unfold maxLen;omega)),a.out.alloc a.out.size _⟩
    |
     some p=>
     go_enter Tryz.func120,Tryz.ntmps120;go_wp2_with fail;refine(X64 _).mono ?_;rintro e w1 ⟨rfl,rfl⟩;go_wp2_with fail;refine(hl.out _).mono ?_;rintro e w1 ⟨v,rfl,hv,a⟩;replace hv:=hid hv;replace a:=hid a;go_wp2_with fail;go_ret;exact⟨_,rfl,hv.out,a.out⟩
   ·have hd:decide (65281≤r)=false:=by simp;omega
    clear h1 h2 f1;cases o with
    |
     none=>
     go_enter Tryz.func120,Tryz.ntmps120;go_wp2_with fail;refine(X64 _).mono ?_;rintro e w1 ⟨rfl,rfl⟩;go_wp2_with fail;refine(hl.out _).mono ?_;rintro e w1 ⟨v,rfl,hv,a⟩;replace hv:=hid hv;replace a:=hid a;go_wp2_with fail;go_ret;exact⟨_,rfl,X0a (X0H w1.heap.size _ [r] _ _ 1 rfl (Nat.le_refl _) rfl rfl (by unfold maxLen;omega)),a.out.alloc a.out.size _⟩
    |
     some p=>
     go_enter Tryz.func120,Tryz.ntmps120;go_wp2_with fail;refine(X64 _).mono ?_;rintro e w1 ⟨rfl,rfl⟩;go_wp2_with fail;refine(hl.out _).mono ?_;rintro e w1 ⟨v,rfl,hv,a⟩;replace hv:=hid hv;replace a:=hid a;go_wp2_with fail;go_ret;exact⟨_,rfl,hv.out,a.out⟩
  ·have hb:decide (44032≤r)=false:=by simp;omega
   have hd:decide (65281≤r)=false:=by simp;omega
   clear h1 h2 f1;cases o with
   |
    none=>
    go_enter Tryz.func120,Tryz.ntmps120;go_wp2_with fail;refine(X64 _).mono ?_;rintro e w1 ⟨rfl,rfl⟩;go_wp2_with fail;refine(hl.out _).mono ?_;rintro e w1 ⟨v,rfl,hv,a⟩;replace hv:=hid hv;replace a:=hid a;go_wp2_with fail;go_ret;exact⟨_,rfl,X0a (X0H w1.heap.size _ [r] _ _ 1 rfl (Nat.le_refl _) rfl rfl (by unfold maxLen;omega)),a.out.alloc a.out.size _⟩
   |
    some p=>
    go_enter Tryz.func120,Tryz.ntmps120;go_wp2_with fail;refine(X64 _).mono ?_;rintro e w1 ⟨rfl,rfl⟩;go_wp2_with fail;refine(hl.out _).mono ?_;rintro e w1 ⟨v,rfl,hv,a⟩;replace hv:=hid hv;replace a:=hid a;go_wp2_with fail;go_ret;exact⟨_,rfl,hv.out,a.out⟩
 have h:=A _ rfl;have hf:Dcp.fullI r=(Lk.look Dcp.T r).getD [r]:=by unfold Dcp.fullI;rw[if_neg h1,if_neg h2]
 rw[hf];exact h
end Go.Proofs.YtkofnpkopbnocaaGreatDoor
