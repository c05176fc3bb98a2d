import Derived.Test.YtkofnpkopbnocaaGreatDoorG1
import Derived.Test.YtkofnpkopbnocaaGreatDoorV1
import Derived.Test.YtkofnpkopbnocaaGreatDoorBasP
import Derived.Deep.LoopGhost
import Derived.Deep.DeepCutAuto
set_option linter.unusedSimpArgs false
set_option linter.unusedVariables false
set_option maxRecDepth 100000
set_option maxHeartbeats 400000
namespace Go.Proofs.YtkofnpkopbnocaaGreatDoor
open Go.RowKit Go.Lib
theorem XmA(v:Value)(l:List UInt8)(c:UInt8)(x:Int)(hx:x=(c.toNat:Int))(B:Nat)(w:World)(hB:B≤w.heap.size)(hl:l.length≤100)(h:OwnB B v l w):
 Calls Tryz.prog 204 #[v, .int .u8 x] w fun e w'=>∃v',e= .returned v'∧OwnB B v' (l++ [c]) w'∧Below B w w':=by
 subst hx;obtain⟨i0,hi,i,j,k⟩:=info_parts X4K;have d:l.length+1≤maxLen:=by simp [maxLen];omega
 have f:(l.length+1) *1≤140737488355328:=by omega
 have b:B≤(w.alloc (Obj.cells #[Value.int IntKind.u8 (c.toNat:Int)] 5)).heap.size:=by simp;omega
 replace d:=hid d;replace f:=hid f;replace b:=hid b;replace h:=hid h;go_enter Tryz.func204,Tryz.ntmps204;go_wp2_with (at_builtin;refine X0c rfl _ _ 140 rfl B 5 i0 (.int .u8 0) 1 Tryz.underlying140 hi i j k rfl _ _ _ rfl (X67 h.out _) _ [.int .u8 (c.toNat:Int)] rfl (.inr ⟨⟨w.heap.size,0,none⟩,1,rfl,cell_one_new _ _ _⟩) (by simp [Value.oneCell']) d.out f.out b.out ?_;intro v5 w5 g a);go_ret;refine⟨_,rfl,X2D (l:=l++ [c]) g (by simp) (by simp [Lib.byteCells]),?_⟩;exact X0k ((Below.refl B w).alloc hB _) a b.out (X67 h.out _) (Nat.le_refl _)
def Xys(w:World)(n:Nat)(m:Nat)(v:Value)(wr:World):Prop:=∃l,OwnB w.heap.size v l wr∧Below w.heap.size w wr∧l++Var.putN m=Var.putN n
theorem Xco{l:List UInt8}{n m:Nat}(hn:n≤268435455)(h:l++Var.putN m=Var.putN n):l.length≤100:=by
 have h1:=Var.X8m n hn;rw[←h,List.length_append] at h1;omega
theorem u8_of{n:Nat}(h:n<256):(n:Int)=((UInt8.ofNat n).toNat:Int):=by
 rw[UInt8.toNat_ofNat'];omega
theorem Xo1(n:Nat)(hn:n≤268435455)(w:World):
 Calls Tryz.prog 203 #[.int .i64 (n:Int), .slice none 0 0, .func (.func 204) #[] #[]] w fun e w'=>∃v,e= .returned v∧OwnB w.heap.size v (Var.putN n) w'∧Below w.heap.size w w':=by
 have h1:(n:Int)≤268435455:=by omega
 go_enter Tryz.func203,Tryz.ntmps203;go_wp2_with fail;go_loopg [0,1] n (fun m i v wr=>m≤n∧i= .int .i64 m∧Xys w n m v wr)
 case atStart=>exact⟨Nat.le_refl _,rfl,[],XgL _ _,Below.refl _ _,rfl⟩
 case round=>
  obtain⟨hm,rfl,l,d,c,a⟩:=hrel;have g:=Xco hn a;replace a:=hid a;replace d:=hid d;by_cases hlt:128≤gk
  ·have h:(128:Int)≤(gk:Int):=by omega
   go_wp2_with fail;refine(XmA _ l (UInt8.ofNat (gk % 128+128)) _ (by rw[←u8_of (by omega)];omega) w.heap.size wr c.size g d.out).mono ?_;rintro e w1 ⟨v1,rfl,b,f⟩;go_wp2_with fail;go_roundg (gk / 128)
   case measure=>omega
   case rel=>exact⟨by omega,by go_num,_,b,c.trans f,by rw[List.append_assoc,←a.out,Var.XhM hlt];rfl⟩
  ·have h:decide ((128:Int)≤(gk:Int))=false:=by simp;omega
   go_wp2_with fail;refine(XmA _ l (UInt8.ofNat gk) _ (u8_of (by omega)) w.heap.size wr c.size g d.out).mono ?_;rintro e w1 ⟨v1,rfl,b,f⟩;go_wp2_with fail;go_ret;exact⟨_,rfl,by rw[←a.out,Var.Xbh (by omega)];exact b,c.trans f⟩
theorem X4C{n:Nat}(h:n≤268435455):Var.putI (n:Int)=Var.putN n:=by unfold Var.putI;rw[if_pos (by omega)];rfl
theorem Xgf{n:Int}(h:n<0∨268435455<n):Var.putI n= []:=by unfold Var.putI;rw[if_neg (by omega)]
theorem Xgg(n:Int)(hn:n<0∨268435455<n)(w:World):
 Calls Tryz.prog 203 #[.int .i64 n, .slice none 0 0, .func (.func 204) #[] #[]] w fun e w'=>e= .returned (.slice none 0 0)∧w=w':=by
 by_cases h:n<0
 case' neg=>
  have h2:268435455<n:=by omega
  have h3:decide (n<0)=false:=by simp;omega
 all_goals
  clear hn;go_enter Tryz.func203,Tryz.ntmps203;go_wp2_with fail;go_ret;exact⟨rfl,rfl⟩
theorem Xat(n:Int)(w:World):
 Calls Tryz.prog 178 #[.int .i64 n] w fun e w'=>∃v,e= .returned v∧OwnB w.heap.size v (Var.putI n) w'∧Below w.heap.size w w':=by
 by_cases h:n<0∨268435455<n
 ·rw[Xgf h];go_enter Tryz.func178,Tryz.ntmps178;go_wp2_with fail;refine(Xgg n h _).mono ?_;rintro e w1 ⟨rfl,rfl⟩;go_wp2_with fail;go_ret;exact⟨_,rfl,XgL _ _,Below.refl _ _⟩
 ·obtain⟨m,rfl⟩: ∃m:Nat,n=m:=⟨n.toNat,by omega⟩;rw[X4C (by omega)];have h1:m≤268435455:=by omega
  go_enter Tryz.func178,Tryz.ntmps178;go_wp2_with fail;refine(Xo1 m h1 _).mono ?_;rintro e w1 ⟨v,rfl,a,hb⟩;go_wp2_with fail;go_ret;exact⟨_,rfl,a,hb⟩
end Go.Proofs.YtkofnpkopbnocaaGreatDoor
