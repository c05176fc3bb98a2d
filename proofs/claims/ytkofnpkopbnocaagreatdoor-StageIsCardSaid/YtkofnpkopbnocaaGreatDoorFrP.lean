import Derived.Test.YtkofnpkopbnocaaGreatDoorBasQ
import Derived.Test.YtkofnpkopbnocaaGreatDoorBasP
import Derived.OwnWalk
import Derived.Test.YtkofnpkopbnocaaGreatDoorC1
import Derived.Lib.AppendStr
import Derived.Deep.LoopGhost
import Derived.Test.YtkofnpkopbnocaaGreatDoorDcP
set_option linter.unusedSimpArgs false
set_option linter.unusedVariables false
set_option maxRecDepth 100000
set_option maxHeartbeats 3200000
namespace Go.Proofs.YtkofnpkopbnocaaGreatDoor
open Go.RowKit Go.Lib
theorem XoT(t:List UInt8):Lib.strCells ⟨t.toArray⟩=Lib.byteCells t:=by simp [Lib.strCells,Lib.byteCells]
namespace Frm
end Frm
open Go.RowKit Go.Lib
theorem X7o{ts:List (List UInt8)}{k:Nat}(hk:k<ts.length):(ts.take (k+1)).flatten=(ts.take k).flatten++ts[k]:=by
 rw[←List.take_append_getElem hk,List.flatten_append];simp
theorem X7S(ts:List (List UInt8))(k:Nat):(ts.take k).flatten.length≤ts.flatten.length:=by
 conv=>rhs;rw[←List.take_append_drop k ts,List.flatten_append,List.length_append]
 omega
theorem Xbq(v:Value)(ts:List (List UInt8))(w:World)(hn:ts.length≤1000)(hl:ts.flatten.length≤100000)(hv:SR w v ts):Calls Tryz.prog 149 #[v] w fun e w'=>∃v',e= .returned v'∧OwnB w.heap.size v' (Frm.X1g ts.flatten) w'∧Below w.heap.size w w':=by
 obtain⟨i0,hi,B,C,D⟩:=info_parts X4K;obtain⟨p,cap,rfl⟩:=X3R hv;replace hv:=hid hv;obtain⟨L,hL⟩: ∃L,ts.flatten.length=L:=⟨_,rfl⟩;have i:=X7S ts;rw[hL] at i hl;have j:=fun W:World=>Xat (L:Int) W;rw[X4C (by omega)] at j;have y:=Var.X8m L (by omega);have z:=Var.X6S L;obtain⟨F,hF⟩: ∃F,Frm.X1g ts.flatten=F:=⟨_,rfl⟩;rw[hF];unfold Frm.X1g at hF;rw[hL] at hF;obtain⟨N,hN⟩: ∃N,Var.putN L=N:=⟨_,rfl⟩;rw[hN] at j y z hF;replace hL:=hid hL;replace i:=hid i;replace hF:=hid hF;replace hN:=hid hN;replace j:=hid j;have G:((N.length:Int) == 0)=false:=beq_eq_false_iff_ne.2 (by omega)
 go_enter Tryz.func149,Tryz.ntmps149;go_wp2_with fail;go_loopg [3,11] ts.length (fun g vs vi wr=>∃k A:Nat,k≤ts.length∧vi= .int .i64 k∧vs= .int .i64 A∧A=(ts.take k).flatten.length∧g=ts.length - k∧w=wr)
 case atStart=>exact⟨0,0,Nat.zero_le _,rfl,rfl,rfl,rfl,rfl⟩
 case round=>
  obtain⟨k,A,hk,rfl,rfl,hA,rfl,rfl⟩:=hrel;by_cases hlt:k<ts.length
  ·have q:(k:Int)<(ts.length:Int):=by omega
   obtain⟨b1,o1,rfl,_,n⟩:=sr_at hv.out (by omega);have k1:w.cell? ⟨b1,o1+k,none⟩=some (strV ts[k]):=n k hlt;have o:=i.out (k+1);have f:=X7o hlt;have h:((ts.take (k+1)).flatten).length=A+ts[k].length:=by rw[f,List.length_append,←hA]
   obtain⟨T,hT⟩: ∃T,ts[k]=T:=⟨_,rfl⟩;rw[hT] at k1 h;have d:(⟨T.toArray⟩:ByteArray).size=T.length:=by simp [ByteArray.size]
   obtain⟨S,hS⟩: ∃S:ByteArray,(⟨T.toArray⟩:ByteArray)=S:=⟨_,rfl⟩;unfold strV at k1;rw[hS] at d k1;rw[h] at o;have E:(A:Int)+(S.size:Int)≤100000:=by rw[d];omega
   have r:A+S.size=((ts.take (k+1)).flatten).length:=by rw[h,d]
   replace r:=hid r;clear f hT hS hA n d h o;go_wp2_with fail;go_roundg (ts.length - (k+1))
   case measure=>omega
   case rel=>exact⟨k+1,A+S.size,by omega,by go_num,by go_num,r.out,rfl,rfl⟩
  ·obtain rfl:k=ts.length:=by omega
   have q:decide ((ts.length:Int)<(ts.length:Int))=false:=by simp
   rw[List.take_length,hL.out] at hA;subst hA;go_wp2_with fail;refine(j.out _).mono ?_;rintro e w1 ⟨v1,rfl,o1,q1⟩;replace o1:=hid o1;replace q1:=hid q1;obtain⟨p1,c1,rfl⟩:=X0o (X1R o1.out);go_wp2_with fail;go_loopg [6,27] ts.length (fun g vb vi wr=>∃k:Nat,k≤ts.length∧vi= .int .i64 k∧OwnB w.heap.size vb (N++(ts.take k).flatten) wr∧g=ts.length - k∧Below w.heap.size w wr)
   case atStart=>exact⟨0,Nat.zero_le _,rfl,by simpa using o1.out,rfl,q1.out⟩
   case round=>
    obtain⟨k,hk,rfl,a,rfl,b⟩:=hrel;by_cases hlt:k<ts.length
    ·have q:(k:Int)<(ts.length:Int):=by omega
     obtain⟨b1,o1,rfl,x,n⟩:=sr_at hv.out (by omega);have k1:wr.cell? ⟨b1,o1+k,none⟩=some (strV ts[k]):=by rw[b.cell x];exact n k hlt
     have o:=i.out (k+1);have f:=X7o hlt;have h:((ts.take (k+1)).flatten).length=(ts.take k).flatten.length+ts[k].length:=by rw[f,List.length_append]
     obtain⟨T,hT⟩: ∃T,ts[k]=T:=⟨_,rfl⟩;rw[hT] at k1 h f;have d:(⟨T.toArray⟩:ByteArray).size=T.length:=by simp [ByteArray.size]
     have c:=XoT T;obtain⟨S,hS⟩: ∃S:ByteArray,(⟨T.toArray⟩:ByteArray)=S:=⟨_,rfl⟩;unfold strV at k1;rw[hS] at d k1 c;obtain⟨A,hA⟩: ∃A,(ts.take k).flatten=A:=⟨_,rfl⟩;rw[hA] at h f a;rw[h] at o;have t:(N++A).length+S.size≤maxLen:=by rw[d,List.length_append];unfold maxLen;omega
     have u:(N++A).length+S.size≤140737488355328:=by rw[d,List.length_append];omega
     replace t:=hid t;replace u:=hid u;replace f:=hid f;replace d:=hid d;replace c:=hid c;replace a:=hid a;replace b:=hid b;clear hT hS hA n o h;go_wp2_with (at_builtin;refine wpList_append_own_string _ rfl _ _ 140 9 rfl w.heap.size 5 i0 Tryz.underlying140 Tryz.underlying9 hi B C D _ _ _ rfl a.out S rfl t.out u.out b.out.size ?_;intro v5 w5 s m _;have b5:=hid (X0k b.out m b.out.size a.out (Nat.le_refl _));have o5:=hid (X2D (l:=N++(A++T)) s (by simp only[List.length_append,d.out];omega) (by rw[c.out];simp [Lib.byteCells]));clear s m);go_roundg (ts.length - (k+1))
     case measure=>omega
     case rel=>exact⟨k+1,by omega,by go_num,by rw[f.out];exact o5.out,rfl,b5.out⟩
    ·obtain rfl:k=ts.length:=by omega
     have q:decide ((ts.length:Int)<(ts.length:Int))=false:=by simp
     rw[List.take_length] at a;rw[hF.out] at a;replace a:=hid a;replace b:=hid b;go_wp2_with fail;go_ret;exact⟨_,rfl,a.out,b.out⟩
theorem XBT(w:World)(t:List UInt8):SR (w.alloc (.cells #[strV t] 9)) (.slice (some ⟨w.heap.size,0,none⟩) 1 1) [t]:=by
 refine .inr ⟨_,1,rfl,Nat.le_refl _,fun _=>⟨_,0,rfl,by simp,fun i hi=>?_⟩⟩;obtain rfl:i=0:=by simpa using hi
 exact X00 (X0g w _ _) 0 _ rfl
theorem Xdb(v:Value)(c:List Int)(w:World)(hl:c.length≤1000)(hv:RI w v c):Calls Tryz.prog 115 #[v] w (ToldB (Frm.putF c) w):=by
 have a:=hid (Tx.X2d v c w (by omega) hv);obtain⟨p,cap,rfl⟩:=X0b hv;have d:=Dec.Xjf c;by_cases h0:c.length=0
 ·have hp:Frm.putF c= []:=by unfold Frm.putF;rw[if_pos (.inl (List.eq_nil_of_length_eq_zero h0))]
  rw[hp];have h1:((c.length:Int) == 0)=true:=beq_iff_eq.2 (by omega);replace h0:=hid h0;go_enter Tryz.func115,Tryz.ntmps115;go_wp2_with fail;go_ret;exact⟨_,rfl, .inl ⟨rfl,rfl⟩,Below.refl _ _⟩
 ·have f:c≠ []:=fun e=>h0 (by rw[e];rfl);obtain⟨hp,b⟩:=Frm.X3F f (by omega);rw[hp];have h1:((c.length:Int) == 0)=false:=beq_eq_false_iff_ne.2 (by omega);obtain⟨T,hT⟩: ∃T,Dec.textL c=T:=⟨_,rfl⟩;rw[hT] at a d ⊢;replace a:=hid a;clear hT h0 hp f b hv;go_enter Tryz.func115,Tryz.ntmps115;go_wp2_with fail;refine a.out.out.mono ?_;rintro e w1 ⟨rfl,q1⟩;have hs:=hid (XBT w1 T);have b1:=hid (q1.alloc q1.size (.cells #[strV T] 9));clear q1;unfold strV at hs b1;go_wp2_with fail;refine(Xbq _ [T] _ (by simp) (by simp;omega) hs.out).mono ?_;rintro e w2 ⟨v2,rfl,o2,q2⟩;have e2: [T].flatten=T:=by simp
  rw[e2] at o2;replace o2:=hid o2;replace q2:=hid q2;clear e2;go_wp2_with fail;go_ret;exact⟨_,rfl,X1R o2.out,b1.out.trans (q2.out.mono b1.out.size)⟩
end Go.Proofs.YtkofnpkopbnocaaGreatDoor
