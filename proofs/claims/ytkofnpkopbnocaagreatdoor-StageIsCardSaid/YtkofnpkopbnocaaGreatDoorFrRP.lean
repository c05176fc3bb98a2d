import Derived.Test.YtkofnpkopbnocaaGreatDoorC1
import Derived.OwnWalk
import Derived.Test.YtkofnpkopbnocaaGreatDoorFrP
import Derived.Test.YtkofnpkopbnocaaGreatDoorDcRP
import Derived.Test.YtkofnpkopbnocaaGreatDoorBasP
set_option linter.unusedSimpArgs false
set_option linter.unusedVariables false
set_option maxRecDepth 100000
set_option maxHeartbeats 3200000
namespace Go.Proofs.YtkofnpkopbnocaaGreatDoor
open Go.RowKit Go.Lib
theorem XxQ(n:Nat)(hn:n≤268435455)(w:World):
 Calls Tryz.prog 161 #[.int .i64 (n:Int)] w fun e w'=>∃v,e= .returned v∧OwnB w.heap.size v (Var.putN n) w'∧Below w.heap.size w w':=by
 have h1:(n:Int)≤268435455:=by omega
 obtain⟨i0,hi,k,o,p⟩:=info_parts X4K;go_enter Tryz.func161,Tryz.ntmps161;go_wp2_with fail;go_loopg [0,3] n (fun m i v wr=>m≤n∧i= .int .i64 m∧Xys w n m v wr)
 case atStart=>exact⟨Nat.le_refl _,rfl,[],XgL _ _,Below.refl _ _,rfl⟩
 case round=>
  obtain⟨hm,rfl,l,f,d,h⟩:=hrel;have u:=Xco hn h;replace h:=hid h;replace f:=hid f;have r:=hid (show l.length+1≤maxLen by simp [maxLen];omega);have s:=hid (show (l.length+1) *1≤140737488355328 by omega);by_cases hlt:128≤gk
  ·have q:(128:Int)≤(gk:Int):=by omega
   have hc:128+(gk:Int) % 128=((UInt8.ofNat (gk % 128+128)).toNat:Int):=by rw[←u8_of (by omega)];omega
   obtain⟨c,g⟩: ∃c,UInt8.ofNat (gk % 128+128)=c:=⟨_,rfl⟩;rw[g] at hc;have t:0≤128+(gk:Int) % 128∧128+(gk:Int) % 128<256:=by omega
   have j:=hid (show w.heap.size≤(wr.alloc (Obj.cells #[Value.int IntKind.u8 (128+(gk:Int) % 128)] 5)).heap.size by have:=d.size;simp;omega);replace g:=hid g;replace hc:=hid hc;go_wp2_with (at_builtin;refine X0c rfl _ _ 140 rfl w.heap.size 5 i0 (.int .u8 0) 1 Tryz.underlying140 hi k o p rfl _ _ _ rfl (X67 f.out _) _ [.int .u8 (128+(gk:Int) % 128)] rfl (.inr ⟨⟨wr.heap.size,0,none⟩,1,rfl,cell_one_new _ _ _⟩) (by simp [Value.oneCell']) r.out s.out j.out ?_;intro v5 w5 b a);go_roundg (gk / 128)
   case measure=>omega
   case rel=>
    rw[hc.out] at b a j;refine⟨by omega,by go_num,l++ [c],X2D b (by simp) (by simp [Lib.byteCells]),X0k (d.alloc d.size _) a j.out (X67 f.out _) (Nat.le_refl _),?_⟩;rw[List.append_assoc,←h.out,Var.XhM hlt,g.out];rfl
  ·have q:decide ((128:Int)≤(gk:Int))=false:=by simp;omega
   have hc:(gk:Int)=((UInt8.ofNat gk).toNat:Int):=u8_of (by omega);obtain⟨c,g⟩: ∃c,UInt8.ofNat gk=c:=⟨_,rfl⟩;rw[g] at hc;have t:(gk:Int)<256:=by omega
   have j:=hid (show w.heap.size≤(wr.alloc (Obj.cells #[Value.int IntKind.u8 (gk:Int)] 5)).heap.size by have:=d.size;simp;omega);replace g:=hid g;replace hc:=hid hc;go_wp2_with (at_builtin;refine X0c rfl _ _ 140 rfl w.heap.size 5 i0 (.int .u8 0) 1 Tryz.underlying140 hi k o p rfl _ _ _ rfl (X67 f.out _) _ [.int .u8 (gk:Int)] rfl (.inr ⟨⟨wr.heap.size,0,none⟩,1,rfl,cell_one_new _ _ _⟩) (by simp [Value.oneCell']) r.out s.out j.out ?_;intro v5 w5 b a);go_ret;rw[hc.out] at b a j;refine⟨_,rfl,?_,X0k (d.alloc d.size _) a j.out (X67 f.out _) (Nat.le_refl _)⟩;rw[←h.out,Var.Xbh (by omega),g.out]
   exact X2D b (by simp) (by simp [Lib.byteCells])
theorem XaZ(v:Value)(c:List Int)(w:World)(hl:c.length≤1000)(hv:RI w v c):Calls Tryz.prog 126 #[v] w (ToldB (Frm.putF c) w):=by
 obtain⟨i0,hi,o,q,r⟩:=info_parts X4K;have a:=hid (Tx.X9z v c w hl hv);obtain⟨p,cap,rfl⟩:=X0b hv;have j:=Dec.Xjf c;by_cases h0:c.length=0
 ·have hp:Frm.putF c= []:=by unfold Frm.putF;rw[if_pos (.inl (List.eq_nil_of_length_eq_zero h0))]
  rw[hp];have h1:((c.length:Int) == 0)=true:=beq_iff_eq.2 (by omega);replace h0:=hid h0;go_enter Tryz.func126,Tryz.ntmps126;go_wp2_with fail;refine a.out.mono ?_;rintro e w1 ⟨rfl,q1⟩;replace q1:=hid q1;go_wp2_with fail;go_ret;exact⟨_,rfl, .inl ⟨rfl,rfl⟩,q1.out⟩
 ·have m:c≠ []:=fun e=>h0 (by rw[e];rfl);obtain⟨hp,d⟩:=Frm.X3F m (by omega);rw[hp];unfold Frm.X1g;unfold Frm.big at d;have h1:((c.length:Int) == 0)=false:=beq_eq_false_iff_ne.2 (by omega);obtain⟨T,hT⟩: ∃T,Dec.textL c=T:=⟨_,rfl⟩;rw[hT] at a j d ⊢;have g:(⟨T.toArray⟩:ByteArray).size=T.length:=by simp [ByteArray.size]
  obtain⟨S,hS⟩: ∃S:ByteArray,(⟨T.toArray⟩:ByteArray)=S:=⟨_,rfl⟩;unfold Tx.XaT at a;rw[hS] at a g;have t:T.length≤4000:=by omega
  have s:S.size≤4000:=by omega
  have i:=hid (fun W=>XxQ T.length d W);have n:=Var.X8m T.length d;obtain⟨N,hN⟩: ∃N,Var.putN T.length=N:=⟨_,rfl⟩;rw[hN] at i n ⊢;have b:Lib.strCells S=Lib.byteCells T:=by rw[←hS];exact XoT T
  have u: ¬((S.size:Int) > 268435455):=by omega
  rw[←g] at i;replace g:=hid g;replace b:=hid b;clear hT hS hN h0 hp m d j;go_enter Tryz.func126,Tryz.ntmps126;go_wp2_with fail;refine a.out.mono ?_;rintro e w1 ⟨rfl,q1⟩;replace q1:=hid q1;go_wp2_with fail;refine(i.out _).mono ?_;rintro e w2 ⟨v2,rfl,o2,q2⟩;replace o2:=hid o2;have k:=hid q2.size;replace q2:=hid q2
  go_wp2_with (at_builtin;refine wpList_append_own_string _ rfl _ _ 140 9 rfl w1.heap.size 5 i0 Tryz.underlying140 Tryz.underlying9 hi o q r _ _ _ rfl o2.out S rfl (by unfold maxLen;omega) (by omega) k.out ?_;intro v5 w5 h f _;have b5:=hid (X0k q2.out f k.out o2.out (Nat.le_refl _));have o5:=hid (X2D (l:=N++T) h (by rw[List.length_append,g.out]) (by rw[b.out];simp [Lib.byteCells]));clear h f);go_ret;exact⟨_,rfl,X1R o5.out,q1.out.trans (b5.out.mono q1.out.size)⟩
end Go.Proofs.YtkofnpkopbnocaaGreatDoor
