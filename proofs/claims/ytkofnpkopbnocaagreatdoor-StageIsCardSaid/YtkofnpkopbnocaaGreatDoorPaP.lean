import Derived.Test.YtkofnpkopbnocaaGreatDoorTk
import Derived.Test.YtkofnpkopbnocaaGreatDoorMthP
import Derived.Test.YtkofnpkopbnocaaGreatDoorDeP
import Derived.Test.YtkofnpkopbnocaaGreatDoorBasP
import Derived.Test.YtkofnpkopbnocaaGreatDoorShelf
import Derived.Lib.ConvBytes
import Derived.Laws.BitsLemmas
import Derived.Deep.LoopGhost
import Derived.Deep.DeepCutAuto
import Derived.KernelRfl
import Derived.Deep.RegionHeld3
set_option linter.unusedSimpArgs false
set_option linter.unusedVariables false
set_option maxRecDepth 100000
set_option maxHeartbeats 3200000
namespace Go.Proofs.YtkofnpkopbnocaaGreatDoor.Par
def numAt(l:List UInt8)(k n:Nat):Int:=Dcp.numF ((l.drop (k *15+n *5)).take 4)
def hexB(c:UInt8):Bool:=(decide (48≤c.toNat) && decide (c.toNat≤57)) || (decide (65≤c.toNat) && decide (c.toNat≤70))
def okRow(l:List UInt8)(s:Int × Int × Int):Bool:=
 decide (Dcp.numF (l.take 4)=s.1) && decide (Dcp.numF ((l.drop 5).take 4)=s.2.1) && decide (Dcp.numF ((l.drop 10).take 4)=s.2.2)
 && (l.take 4).all hexB && ((l.drop 5).take 4).all hexB && ((l.drop 10).take 4).all hexB
def okAll:List UInt8→List (Int × Int × Int)→Bool
 | l,[]=>l.isEmpty
 | l,s::t=>okRow (l.take 15) s && okAll (l.drop 15) t
theorem Xn1{l:List UInt8}{t:List (Int × Int × Int)}(h:okAll l t=true)(k:Nat)(hk:k<t.length):okRow ((l.drop (k *15)).take 15) t[k]=true:=by
 induction t generalizing l k with
 | nil=>simp at hk
 |
  cons s t ih=>
  simp only[okAll,Bool.and_eq_true] at h;cases k with
  | zero=>simpa using h.1
  |
   succ k=>
   have:=ih h.2 k (by simpa using hk);rw[List.drop_drop] at this;rw[show (k+1) *15=15+k *15 by omega];exact this
theorem cut4(l:List UInt8)(k n:Nat)(hn:n<3):((((l.drop (k *15)).take 15).drop (n *5)).take 4)=(l.drop (k *15+n *5)).take 4:=by
 rw[List.drop_take,List.take_take,List.drop_drop,show min 4 (15 - n *5)=4 by omega]
def nth(s:Int × Int × Int)(n:Nat):Int:=if n=0 then s.1 else if n=1 then s.2.1 else s.2.2
theorem Xd0{l:List UInt8}{k:Nat}{s:Int × Int × Int}(h:okRow ((l.drop (k *15)).take 15) s=true)(n:Nat)(hn:n<3):
 numAt l k n=nth s n∧((l.drop (k *15+n *5)).take 4).all hexB=true:=by
 simp only[okRow,Bool.and_eq_true,decide_eq_true_eq] at h;obtain⟨⟨⟨⟨⟨h1,h2⟩,h3⟩,h4⟩,h5⟩,h6⟩:=h;have c0:=cut4 l k 0 (by omega);have c1:=cut4 l k 1 (by omega);have c2:=cut4 l k 2 (by omega);simp only[Nat.zero_mul,List.drop_zero,Nat.one_mul,Nat.add_zero] at c0 c1;simp only[Nat.reduceMul] at c2;rw[c0] at h1 h4;rw[c1] at h2 h5;rw[c2] at h3 h6;unfold numAt nth
 match n,hn with
 | 0,_=>exact⟨by simpa using h1,by simpa only[Nat.zero_mul,Nat.add_zero] using h4⟩
 | 1,_=>exact⟨by simpa using h2,by simpa only[Nat.one_mul] using h5⟩
 | 2,_=>exact⟨by simpa using h3,by simpa only[Nat.reduceMul] using h6⟩
def ltK(a b c d:Int):Bool:=decide (a<c) || (decide (a=c) && decide (b<d))
def cmpK(a b c d:Int):Int:=if a<c then -1 else if c<a then 1 else if b<d then -1 else if d<b then 1 else 0
theorem XF0(a b c d:Int):decide (cmpK a b c d<0)=ltK a b c d:=by
 unfold cmpK ltK;rw[Bool.eq_iff_iff];simp only[decide_eq_true_eq,Bool.or_eq_true,Bool.and_eq_true]
 split
 ·omega
 ·split
  ·omega
  ·split
   ·omega
   ·split <;> omega
def posJ:List (Int × Int × Int)→Int→Int→Nat
 | [],_,_=>0
 | s::t,a,b=>if ltK s.1 s.2.1 a b=true then posJ t a b+1 else 0
def upB:List (Int × Int × Int)→Bool
 | s::u::t=>ltK s.1 s.2.1 u.1 u.2.1 && upB (u::t)
 | _=>true
theorem lt_trans{a b c d e f:Int}(h1:ltK a b c d=true)(h2:ltK c d e f=true):ltK a b e f=true:=by
 unfold ltK at *
 simp only[decide_eq_true_eq,Bool.or_eq_true,Bool.and_eq_true] at *
 omega
theorem X7u{s:Int × Int × Int}{l:List (Int × Int × Int)}(h:upB (s::l)=true):upB l=true:=by
 cases l with
 | nil=>rfl
 | cons b t=>simp only[upB,Bool.and_eq_true] at h;exact h.2
theorem Xdv{s:Int × Int × Int}{l:List (Int × Int × Int)}(h:upB (s::l)=true): ∀x∈l,ltK s.1 s.2.1 x.1 x.2.1=true:=by
 induction l generalizing s with
 | nil=>intro x hx;cases hx
 |
  cons b t ih=>
  intro x hx;simp only[upB,Bool.and_eq_true] at h;rcases List.mem_cons.1 hx with rfl | hx
  ·exact h.1
  ·exact lt_trans h.1 (ih h.2 x hx)
theorem XbV{l:List (Int × Int × Int)}(h:upB l=true):l.Pairwise (fun s t=>ltK s.1 s.2.1 t.1 t.2.1=true):=by
 induction l with
 | nil=>exact .nil
 | cons s t ih=>exact .cons (Xdv h) (ih (X7u h))
theorem XEs(l:List (Int × Int × Int))(a b:Int):posJ l a b≤l.length:=by
 induction l with
 | nil=>exact Nat.le_refl _
 | cons s t ih=>unfold posJ;split <;> simp <;> omega
theorem Xeg{l:List (Int × Int × Int)}(hs:upB l=true)(a b:Int)(k:Nat)(hk:k<l.length):ltK l[k].1 l[k].2.1 a b=true↔k<posJ l a b:=by
 induction l generalizing k with
 | nil=>simp at hk
 |
  cons s t ih=>
  unfold posJ;cases k with
  | zero=>simp only[List.getElem_cons_zero];split <;> simp_all
  |
   succ k=>
   simp only[List.getElem_cons_succ];have c:k<t.length:=by simpa using hk
   rw[ih (X7u hs) k c]
   split
   ·omega
   ·rename_i h;have h1:=Xdv hs t[k] (List.getElem_mem c);have h3:=ih (X7u hs) k c;constructor
    ·intro h4;exact absurd (lt_trans h1 (h3.2 h4)) h
    ·intro h4;omega
theorem XCx{l:List (Int × Int × Int)}(hs:upB l=true)(a b:Int)(hp:posJ l a b<l.length)(h1:l[posJ l a b].1=a)(h2:l[posJ l a b].2.1=b):lookJ l a b=some l[posJ l a b].2.2:=by
 refine Xbu ((XbV hs).imp fun {s t} h e=>?_) ?_
 ·unfold ltK at h;simp only[decide_eq_true_eq,Bool.or_eq_true,Bool.and_eq_true] at h;omega
 ·have:=List.getElem_mem hp;obtain⟨x,hx⟩: ∃x,l[posJ l a b]=x:=⟨_,rfl⟩;rw[hx] at this h1 h2 ⊢;obtain⟨x1,x2,x3⟩:=x;dsimp only at *
  subst h1 h2;exact this
theorem XDC{l:List (Int × Int × Int)}(hs:upB l=true)(a b:Int)(h: ∀hp:posJ l a b<l.length,¬(l[posJ l a b].1=a∧l[posJ l a b].2.1=b)):lookJ l a b=none:=by
 refine XpQ fun s d e=>?_;obtain⟨k,hk,rfl⟩:=List.mem_iff_getElem.1 d;have hn: ¬k<posJ l a b:=fun c=>by
  have:=(Xeg hs a b k hk).2 c;rw[e.1,e.2] at this;unfold ltK at this;simp only[decide_eq_true_eq,Bool.or_eq_true,Bool.and_eq_true] at this;omega
 have hp:posJ l a b<l.length:=by omega
 rcases Nat.eq_or_lt_of_le (Nat.le_of_not_lt hn) with h3 | h3
 ·refine h hp ?_;simp only[h3];exact e
 ·have h4:=List.pairwise_iff_getElem.1 (XbV hs) _ _ hp hk h3;rw[e.1,e.2] at h4;have:=(Xeg hs a b _ hp).1 h4;omega
theorem up:upB T=true:=by decide+kernel
theorem rows:T.length=307:=by decide+kernel
theorem XaL: ∀s∈T,0<s.1∧s.1<65536∧0<s.2.1∧s.2.1<65536∧0<s.2.2∧s.2.2<65536:=by decide+kernel
end Go.Proofs.YtkofnpkopbnocaaGreatDoor.Par
namespace Go.Proofs.YtkofnpkopbnocaaGreatDoor
open Go.RowKit Go.Lib
def optI:Option Int→Value
 | some x=> .tuple #[.int .i64 x, .bool true]
 | none=> .tuple #[.int .i64 0, .bool false]
theorem Xue: ∀k:Fin 6,bits .or .u8 (65+(k.1:Int)) 32=97+(k.1:Int):=by decide+kernel
theorem XAn(c:Nat)(h1:65≤c)(h2:c≤70):bits .or .u8 (c:Int) 32=(c:Int)+32:=by
 have h:=Xue ⟨c - 65,by omega⟩;rw[show 65+((c - 65:Nat):Int)=(c:Int) by omega] at h;rw[h]
 show 97+((c - 65:Nat):Int)=_
 omega
theorem XxA: ∀k:Fin 10,Dcp.hexD (UInt8.ofNat (48+k.1))=(k.1:Int):=by decide+kernel
theorem XxB: ∀k:Fin 6,Dcp.hexD (UInt8.ofNat (65+k.1))=(k.1:Int)+10:=by decide+kernel
theorem Xny(c:UInt8)(h1:48≤c.toNat)(h2:c.toNat≤57):Dcp.hexD c=(c.toNat:Int) - 48:=by
 have h:=XxA ⟨c.toNat - 48,by omega⟩;simp only[show 48+(c.toNat - 48)=c.toNat by omega,UInt8.ofNat_toNat] at h;rw[h];omega
theorem XjU(c:UInt8)(h1:65≤c.toNat)(h2:c.toNat≤70):Dcp.hexD c=(c.toNat:Int) - 55:=by
 have h:=XxB ⟨c.toNat - 65,by omega⟩;simp only[show 65+(c.toNat - 65)=c.toNat by omega,UInt8.ofNat_toNat] at h;rw[h];omega
theorem Xnz(l:List UInt8)(h:l.all Par.hexB=true)(hl:l.length≤4):0≤Dcp.numF l∧Dcp.numF l<65536:=by
 have hb:=Dcp.XzJ l hl;refine⟨?_,hb.2⟩;clear hb hl;have d: ∀ (l:List UInt8) (n:Int),0≤n→l.all Par.hexB=true→0≤l.foldl (fun n c=>n *16+Dcp.hexD c) n:=by
  intro l
  induction l with
  | nil=>intro n hn _;exact hn
  |
   cons c t ih=>
   intro n hn h;simp only[List.all_cons,Bool.and_eq_true] at h;refine ih _ ?_ h.2;have h1:=h.1;unfold Par.hexB at h1;simp only[Bool.or_eq_true,Bool.and_eq_true,decide_eq_true_eq] at h1;rcases h1 with⟨a,b⟩ | ⟨a,b⟩
   ·show 0≤n *16+Dcp.hexD c
    rw[Xny c a b];omega
   ·show 0≤n *16+Dcp.hexD c
    rw[XjU c a b];omega
 exact d l 0 (by omega) h
noncomputable abbrev Xuf(W:World)(s:ByteArray):World:=Lib.bytesWorld W 5 s
theorem XjV(W:World)(s:ByteArray):Below W.heap.size W (Xuf W s):=by
 refine⟨rfl,rfl,rfl,?_,fun k hk=>Lib.bytesWorld_at_old W _ s k hk⟩;have:=Lib.bytesWorld_size W 5 s
 show W.heap.size≤(Lib.bytesWorld W 5 s).heap.size
 omega
theorem XxC(t:ByteArray)(ht:t.size=4)(hh:t.data.toList.all Par.hexB=true)(w:World):
 Calls Tryz.prog 236 #[.string t, .int .i64 16, .int .i64 16] w fun e w'=>e= .returned (.tuple #[.int .u64 (Dcp.numF t.data.toList), .nilIface])∧Below w.heap.size w w':=by
 have A:t.toList.isEmpty=false:=by
  rw[←decide_eq_emptyBytes];exact decide_eq_false (fun h=>by rw[h] at ht;cases ht)
 have v:=Lib.run_convert_string_bytes (P:=Tryz.prog) w 9 140 5 t Tryz.underlying9 Tryz.underlying140 Tryz.underlying5;have hB: ∀j,j<4→(Xuf w t).cell? ⟨w.heap.size,j,none⟩=some (.int .u8 (t.data.toList.getD j 0).toNat):=fun j hj=>Lib.bytesWorld_cell w 5 t j (by omega);have f:=XjV w t;unfold Xuf at hB f;rw[ht] at v;obtain⟨W1,p⟩: ∃W1,W1=Lib.bytesWorld w 5 t:=⟨_,rfl⟩;obtain⟨cp,u⟩: ∃cp,cp=grownCap w 4 0 5:=⟨_,rfl⟩;rw[←p] at hB f;rw[←p,←u] at v;clear p u;replace ht:=hid ht;obtain⟨bs,hL⟩: ∃bs,bs=t.data.toList:=⟨_,rfl⟩;have g:bs.length=4:=by rw[hL,←Lib.size_eq];exact ht.out
 rw[←hL] at hB hh ⊢;replace hL:=hid hL;replace hB:=hid hB;replace f:=hid f;replace g:=hid g;replace hh:=hid hh;have C:IntKind.u64.wrap (IntKind.u64.wrap 65536 - 1)=65535:=by
  rw[IntKind.wrap_u64,IntKind.wrap_u64];decide
 go_enter Tryz.func236,Tryz.ntmps236;go_wp2_with fail
 go_loop [12,13,101] (fun vu vn vi=>∃ (k:Nat) (a:Int),vu= .bool false∧vn= .int .u64 a∧vi= .int .i64 k∧k≤4∧Hid (a=Dcp.numF (bs.take k)))
  (fun _ _ vi=>4 - (RowKit.intOf vi).toNat)
 case atStart=>exact⟨0,0,rfl,rfl,rfl,by omega,hid rfl⟩
 case round=>
  obtain⟨k,a,rfl,rfl,rfl,hk,ha⟩:=hrel;have i:(bs.take k).all Par.hexB=true:=by
   have h:=hh.out;rw[List.all_eq_true] at h ⊢;exact fun x hx=>h x (List.mem_of_mem_take hx)
  by_cases hkn:k<4
  ·have z:0≤a∧a<4096:=by
    rw[ha.out];have h1:=Xnz _ i (by rw[List.length_take];omega);refine⟨h1.1,?_⟩;have hl:=g.out;have h2: ∀ (l:List UInt8),l.length≤3→Dcp.numF l<4096:=by
     intro l hl
     match l,hl with
     | [],_=>decide
     | [a],_=>have:=Dcp.X3C a;simp only[Dcp.numF,List.foldl];omega
     | [a,b],_=>have:=Dcp.X3C a;have:=Dcp.X3C b;simp only[Dcp.numF,List.foldl];omega
     | [a,b,c],_=>have:=Dcp.X3C a;have:=Dcp.X3C b;have:=Dcp.X3C c;simp only[Dcp.numF,List.foldl];omega
     | _::_::_::_::_,h=>simp at h
    exact h2 _ (by rw[List.length_take];omega)
   obtain⟨a0,a1⟩:=z;clear i;have hl:=g.out;have hc:=hB.out k hkn;have o:bs.getD k 0=bs[k]'(by omega):=by simp [List.getD,List.getElem?_eq_getElem (show k<bs.length by omega)]
   have r:bs.take (k+1)=bs.take k++ [bs[k]'(by omega)]:=by rw[List.take_succ_eq_append_getElem (by omega)]
   have hx:Par.hexB (bs[k]'(by omega))=true:=List.all_eq_true.1 hh.out _ (List.getElem_mem _);rw[o] at hc;generalize bs[k]'(by omega)=c at hc r hx;have d:=Dcp.Xsi (bs.take k) c;rw[←r,←ha.out] at d;have m:c.toNat<256:=c.toNat_lt;clear o r hl;unfold Par.hexB at hx;simp only[Bool.or_eq_true,Bool.and_eq_true,decide_eq_true_eq] at hx;rcases hx with⟨d0,d1⟩ | ⟨d0,d1⟩
   ·rw[Xny c d0 d1] at d;replace d:=hid d;obtain⟨x,hx⟩: ∃x:Int,(c.toNat:Int)=x:=⟨_,rfl⟩;have s:48≤x∧x≤57:=by omega
    obtain⟨x0,x1⟩:=s;rw[hx] at hc d;have y:(x == 95)=false:=beq_eq_false_iff_ne.2 (by omega);clear d0 d1 m hx;go_wp2_with fail;refine⟨⟨k+1,a *16+(x - 48),rfl,(by first | rfl | (congr 1;omega)),(by first | rfl | (congr 1;omega)),by omega,hid d.out.symm⟩,by simp [RowKit.intOf];omega⟩
   ·rw[XjU c d0 d1] at d;replace d:=hid d;have n:=XAn c.toNat d0 d1;obtain⟨x,hx⟩: ∃x:Int,(c.toNat:Int)=x:=⟨_,rfl⟩;have s:65≤x∧x≤70:=by omega
    obtain⟨x0,x1⟩:=s;rw[hx] at hc d n;have y:(x == 95)=false:=beq_eq_false_iff_ne.2 (by omega);have B:decide (x≤57)=false:=by simp;omega
    have q: ∀W,Calls Tryz.prog 239 #[.int .u8 x] W fun e w'=>e= .returned (.int .u8 (x+32))∧w'=W:=fun W=>by
     have:=Tryz.internal_strconv_lower x W;rw[n] at this;exact this
    replace q:=hid q;clear d0 d1 m hx n;go_wp2_with (go_at_call 239;refine(q.out _).mono ?_;rintro e w' ⟨rfl,rfl⟩);refine⟨⟨k+1,a *16+(x - 55),rfl,(by first | rfl | (congr 1;omega)),(by first | rfl | (congr 1;omega)),by omega,hid d.out.symm⟩,by simp [RowKit.intOf];omega⟩
  ·obtain rfl:k=4:=by omega
   have hf:=ha.out;rw[List.take_of_length_le (by rw[g.out];omega)] at hf;replace hf:=hid hf;clear i ha;go_wp2_with fail
   go_ret2
   exact⟨by rw[hf.out];rfl,f.out⟩
theorem XAo(t:ByteArray)(ht:t.size=4)(hh:t.data.toList.all Par.hexB=true)(w:World):
 Calls Tryz.prog 233 #[.string t, .int .i64 16, .int .i64 16] w fun e w'=>e= .returned (.tuple #[.int .u64 (Dcp.numF t.data.toList), .nilIface])∧Below w.heap.size w w':=by
 have h:=hid (XxC t ht hh w);clear ht hh;go_enter Tryz.func233,Tryz.ntmps233;go_wp2_with fail;refine h.out.mono ?_;rintro e w1 ⟨rfl,hb⟩;replace hb:=hid hb;go_wp2_with fail
 go_ret2
 exact⟨rfl,hb.out⟩
noncomputable def Xug(S:ByteArray):Code:=
 ((Go.Code.region 0 #[{ dst:=some 4,op:=Go.Op.assign (Go.Operand.const (Go.Value.int Go.IntKind.i64 0)),type:=3,pos:= "pair.go:90",after:= #[],guard:=none }] false).seq ((Go.Code.region 1 #[{ dst:=some 8,op:=Go.Op.move (Go.Operand.tmp 0),type:=3,pos:= "pair.go:91",after:= #[],guard:=none },{ dst:=some 9,op:=Go.Op.binOp Go.BinOp.mul 3 (Go.Operand.tmp 8) (Go.Operand.const (Go.Value.int Go.IntKind.i64 15)) 3,type:=3,pos:= "pair.go:91",after:= #[{ on:=0,ground:=Go.Ground.data }],guard:=none },{ dst:=some 10,op:=Go.Op.move (Go.Operand.tmp 1),type:=3,pos:= "pair.go:91",after:= #[],guard:=none },{ dst:=some 11,op:=Go.Op.binOp Go.BinOp.mul 3 (Go.Operand.tmp 10) (Go.Operand.const (Go.Value.int Go.IntKind.i64 5)) 3,type:=3,pos:= "pair.go:91",after:= #[{ on:=2,ground:=Go.Ground.data }],guard:=none },{ dst:=some 12,op:=Go.Op.binOp Go.BinOp.add 3 (Go.Operand.tmp 9) (Go.Operand.tmp 11) 3,type:=3,pos:= "pair.go:91",after:= #[{ on:=1,ground:=Go.Ground.data },{ on:=3,ground:=Go.Ground.data }],guard:=none },{ dst:=some 13,op:=Go.Op.slice 9 (Go.Operand.const (Go.Value.string S)) (some (Go.Operand.tmp 12)) none none,type:=9,pos:= "pair.go:91",after:= #[{ on:=4,ground:=Go.Ground.data }],guard:=none },{ dst:=some 5,op:=Go.Op.assign (Go.Operand.tmp 13),type:=9,pos:= "pair.go:91",after:= #[{ on:=5,ground:=Go.Ground.data },{ on:=0,ground:=Go.Ground.phase },{ on:=1,ground:=Go.Ground.phase },{ on:=2,ground:=Go.Ground.phase },{ on:=3,ground:=Go.Ground.phase },{ on:=4,ground:=Go.Ground.phase },{ on:=5,ground:=Go.Ground.phase }],guard:=none }] false).seq ((Go.Code.region 2 #[{ dst:=some 15,op:=Go.Op.move (Go.Operand.tmp 5),type:=9,pos:= "pair.go:92",after:= #[],guard:=none },{ dst:=some 16,op:=Go.Op.slice 9 (Go.Operand.tmp 15) none (some (Go.Operand.const (Go.Value.int Go.IntKind.i64 4))) none,type:=9,pos:= "pair.go:92",after:= #[{ on:=0,ground:=Go.Ground.data }],guard:=none },{ dst:=some 17,op:=Go.Op.call { callee:=Go.Callee.value (Go.Operand.func 233),args:= #[Go.Operand.tmp 16,Go.Operand.const (Go.Value.int Go.IntKind.i64 16),Go.Operand.const (Go.Value.int Go.IntKind.i64 16)],argTypes:= #[9,3,3] },type:=246,pos:= "pair.go:92",after:= #[{ on:=1,ground:=Go.Ground.data }],guard:=none },{ dst:=some 14,op:=Go.Op.move (Go.Operand.tmp 17),type:=246,pos:= "pair.go:92",after:= #[{ on:=2,ground:=Go.Ground.data }],guard:=none },{ dst:=some 18,op:=Go.Op.extract (Go.Operand.tmp 14) 0,type:=193,pos:= "pair.go:92",after:= #[{ on:=3,ground:=Go.Ground.data }],guard:=none },{ dst:=some 19,op:=Go.Op.extract (Go.Operand.tmp 14) 1,type:=205,pos:= "pair.go:92",after:= #[{ on:=3,ground:=Go.Ground.data },{ on:=6,ground:=Go.Ground.gcOnly Go.Departure.lateStores }],guard:=none },{ dst:=some 6,op:=Go.Op.assign (Go.Operand.tmp 18),type:=193,pos:= "pair.go:92",after:= #[{ on:=4,ground:=Go.Ground.data },{ on:=2,ground:=Go.Ground.chain },{ on:=0,ground:=Go.Ground.phase },{ on:=1,ground:=Go.Ground.phase },{ on:=2,ground:=Go.Ground.phase },{ on:=3,ground:=Go.Ground.phase },{ on:=4,ground:=Go.Ground.phase },{ on:=5,ground:=Go.Ground.textOnly Go.Departure.lateStores }],guard:=none },{ dst:=some 7,op:=Go.Op.assign (Go.Operand.tmp 19),type:=205,pos:= "pair.go:92",after:= #[{ on:=5,ground:=Go.Ground.data },{ on:=6,ground:=Go.Ground.chain },{ on:=0,ground:=Go.Ground.phase },{ on:=1,ground:=Go.Ground.phase },{ on:=2,ground:=Go.Ground.phase },{ on:=3,ground:=Go.Ground.phase },{ on:=4,ground:=Go.Ground.phase },{ on:=5,ground:=Go.Ground.phase },{ on:=6,ground:=Go.Ground.phase }],guard:=none }] false).seq ((Go.Code.region 3 #[{ dst:=some 20,op:=Go.Op.move (Go.Operand.tmp 6),type:=193,pos:= "pair.go:93",after:= #[],guard:=none },{ dst:=some 21,op:=Go.Op.convert 193 3 (Go.Operand.tmp 20),type:=3,pos:= "pair.go:93",after:= #[{ on:=0,ground:=Go.Ground.data }],guard:=none },{ dst:=some 4,op:=Go.Op.assign (Go.Operand.tmp 21),type:=3,pos:= "pair.go:93",after:= #[{ on:=1,ground:=Go.Ground.data },{ on:=0,ground:=Go.Ground.phase },{ on:=1,ground:=Go.Ground.phase }],guard:=none }] false).seq Go.Code.ret))))
noncomputable def numS:ByteArray:=
 match Tryz.f229.body with
 |
  some (.seq _ (.seq (.region _ ops _) _))=>(match ops[5]? with
  | some o=>(match o.op with | .slice _ (.const (.string s)) _ _ _=>s | _=>⟨#[]⟩)
  | none=>⟨#[]⟩)
 | _=>⟨#[]⟩
theorem XpO:Tryz.f229.body=some (Xug numS):=by kernel_rfl
theorem Xea:numS.size=4605:=by decide+kernel
theorem XAp:Par.okAll numS.data.toList Par.T=true:=by decide+kernel
noncomputable def numB(k n:Nat):ByteArray:=(numS.extract (k *15+n *5) 4605).extract 0 4
theorem Xeb(k n:Nat):(numB k n).data.toList=(numS.data.toList.drop (k *15+n *5)).take 4:=by
 unfold numB;rw[Lib.extract_data,Lib.extract_data,List.drop_zero,Nat.sub_zero,List.take_take];have h:numS.data.toList.length=4605:=by rw[←Lib.size_eq];exact Xea
 rcases Nat.lt_or_ge 4605 (k *15+n *5+4) with h1 | h1
 ·rw[List.take_of_length_le (i:=4) (by rw[List.length_drop];omega),List.take_of_length_le (by rw[List.length_drop];omega)]
 ·rw[Nat.min_eq_left (by omega)]
theorem XpP(k n:Nat)(hk:k<307)(hn:n<3):(numB k n).size=4∧(numB k n).data.toList.all Par.hexB=true∧Dcp.numF (numB k n).data.toList=Par.nth (Par.T[k]'(by rw[Par.rows];exact hk)) n:=by
 obtain⟨h1,h2⟩:=Par.Xd0 (Par.Xn1 XAp k (by rw[Par.rows];exact hk)) n hn;refine⟨?_,by rw[Xeb];exact h2,by rw[Xeb];exact h1⟩;have h:numS.data.toList.length=4605:=by rw[←Lib.size_eq];exact Xea
 rw[Lib.size_eq,Xeb,List.length_take,List.length_drop,h];omega
theorem Xec(k n:Nat)(hk:k<307)(hn:n<3)(x:Int)(hx:Par.nth (Par.T[k]'(by rw[Par.rows];exact hk)) n=x)(w:World):
 Calls Tryz.prog 229 #[.int .i64 k, .int .i64 n] w fun e w'=>e= .returned (.int .i64 x)∧Below w.heap.size w w':=by
 obtain⟨h4,hh,hv⟩:=XpP k n hk hn;rw[hx] at hv;have a:=XAo (numB k n) h4 hh;have hb:=Xnz _ hh (by rw[←Lib.size_eq,h4];omega);rw[hv] at a hb;obtain⟨d,f⟩:=hb;clear h4 hh hv hx;unfold numB at a;have c:=Xea;have b:=XpO;obtain⟨S,hS⟩: ∃S,numS=S:=⟨_,rfl⟩;rw[hS] at c b a;replace hS:=hid hS;refine calls_of_wp Tryz.func229 b ?_;clear b;unfold Xug;replace a:=hid a;have g:(S.extract (k *15+n *5) 4605).size=4605 - (k *15+n *5):=by rw[ByteArray.size_extract,c];omega
 simp only[Tryz.ntmps229,List.size_toArray,List.length_cons,List.length_nil,Nat.reduceAdd,Nat.reduceSub,Array.replicate_succ,
  Array.replicate_zero,List.push_toArray,List.append_toArray,List.nil_append,List.cons_append]
 go_wp2_with fail;refine(a.out _).mono ?_;rintro e w1 ⟨rfl,hb⟩;replace hb:=hid hb;go_wp2_with fail;go_ret;exact⟨rfl,hb.out⟩
theorem Xuh(k:Nat)(hk:k<307)(x y:Int)(hx:(Par.T[k]'(by rw[Par.rows];exact hk)).1=x)(hy:(Par.T[k]'(by rw[Par.rows];exact hk)).2.1=y)(w:World):
 Calls Tryz.prog 228 #[.int .i64 k] w fun e w'=>e= .returned (.agg #[.int .i64 x, .int .i64 y])∧Below w.heap.size w w':=by
 have h0:=hid (Xec k 0 hk (by omega) x (by rw[←hx];rfl));have h1:=hid (Xec k 1 hk (by omega) y (by rw[←hy];rfl));clear hx hy;go_enter Tryz.func228,Tryz.ntmps228;go_wp2_with fail;refine(h0.out _).mono ?_;rintro e w1 ⟨rfl,b⟩;replace b:=hid b;go_wp2_with fail;refine(h1.out _).mono ?_;rintro e w2 ⟨rfl,d⟩;have c:=(X1v b.out).trans (d.mono (X1v b.out).size);have a:=X02 (X02 (X0g w #[.int .i64 0, .int .i64 0] 232) b.out) d;have c0:=X00 a 0 _ rfl;have c1:=X00 a 1 _ rfl;have f0:=X06 a 0;have f1:=X06 a 1;replace a:=hid a;replace c:=hid c;clear d;go_wp2_with fail
 have e1:((w2.setCell ⟨w.heap.size,0,none⟩ (.int .i64 x)).setCell ⟨w.heap.size,1,none⟩ (.int .i64 y)).cell? ⟨w.heap.size,1,none⟩=some (.int .i64 y):=by
  refine World.cell?_setCell_same _ _ _ (u:= .int .i64 0) ?_;rw[World.cell?_setCell_other]
  ·exact c1
  ·simp
 have e0:((w2.setCell ⟨w.heap.size,0,none⟩ (.int .i64 x)).setCell ⟨w.heap.size,1,none⟩ (.int .i64 y)).cell? ⟨w.heap.size,0,none⟩=some (.int .i64 x):=by
  rw[World.cell?_setCell_other]
  ·exact World.cell?_setCell_same _ _ _ c0
  ·simp
 refine bodyPost_ret (v:= .agg #[.int .i64 x, .int .i64 y]) ?_ rfl ⟨rfl,(c.out.setCell (by simp) _).setCell (by simp) _⟩;simp [results,Tryz.results228,go_sem,e0,e1]
theorem Xed(a b:Int)(w:World):Calls Tryz.prog 165 #[.int .i64 a, .int .i64 b] w fun e w'=>e= .returned (.int .i64 (Lib.compareInt a b))∧w=w':=
 (Tryz.cmp_Compare_int a b w).mono fun _ _ h=>⟨h.1,h.2.symm⟩
theorem Xui(a b c d:Int):Par.cmpK a b c d=if Lib.compareInt a c=0 then Lib.compareInt b d else Lib.compareInt a c:=by
 unfold Par.cmpK Lib.compareInt
 (repeat' split) <;> omega
theorem Xm0(a b c d:Int)(g h:Nat)(w:World)(ca:w.cell? ⟨g,0,none⟩=some (.int .i64 a))(cb:w.cell? ⟨g,1,none⟩=some (.int .i64 b))
 (cc:w.cell? ⟨h,0,none⟩=some (.int .i64 c)) (cd:w.cell? ⟨h,1,none⟩=some (.int .i64 d)):
 Calls Tryz.prog 232 #[.slice (some ⟨g,0,none⟩) 2 2, .slice (some ⟨h,0,none⟩) 2 2] w fun e w'=>e= .returned (.int .i64 (Par.cmpK a b c d))∧w=w':=by
 have f:=hid (Xui a b c d);obtain⟨z,hz⟩: ∃z,Par.cmpK a b c d=z:=⟨_,rfl⟩;rw[hz] at f ⊢;replace hz:=hid hz;have h1:=hid (Xed a c);have h2:=hid (Xed b d);obtain⟨p,hp⟩: ∃p,Lib.compareInt a c=p:=⟨_,rfl⟩;obtain⟨q,hq⟩: ∃q,Lib.compareInt b d=q:=⟨_,rfl⟩;rw[hp] at h1 f;rw[hq] at h2 f;replace hp:=hid hp;replace hq:=hid hq;go_enter Tryz.func232,Tryz.ntmps232;go_wp2_with fail;go_loopg [11] 2 (fun g i wr=>∃k:Nat,k≤2∧i= .int .i64 k∧g=2 - k∧wr=w∧Hid ((0<k→p=0)∧(1<k→q=0)))
 case atStart=>exact⟨0,by omega,rfl,rfl,rfl,hid ⟨by omega,by omega⟩⟩
 case round=>
  obtain⟨k,hk,rfl,rfl,rfl,hf⟩:=hrel
  match k,hk with
  |
   0,_=>
   by_cases hz0:p=0
   ·subst hz0;go_wp2_with fail;refine(h1.out _).mono ?_;rintro e w1 ⟨rfl,rfl⟩;go_wp2_with fail;go_roundg 1
    case measure=>omega
    case rel=>exact⟨1,by omega,by go_num,rfl,rfl,hid ⟨by simp,by omega⟩⟩
   ·have m:(p == 0)=false:=beq_eq_false_iff_ne.2 hz0;have hr:=f.out;rw[if_neg hz0] at hr;replace hr:=hid hr;clear hz0;go_wp2_with fail;refine(h1.out _).mono ?_;rintro e w1 ⟨rfl,rfl⟩;go_wp2_with fail;go_ret;exact⟨by rw[hr.out];rfl,rfl⟩
  |
   1,_=>
   have j:p=0:=hf.out.1 (by omega);have hr:=f.out;rw[if_pos j] at hr;replace hr:=hid hr;replace j:=hid j;by_cases hz0:q=0
   ·subst hz0;go_wp2_with fail;refine(h2.out _).mono ?_;rintro e w1 ⟨rfl,rfl⟩;go_wp2_with fail;go_roundg 0
    case measure=>omega
    case rel=>exact⟨2,by omega,by go_num,rfl,rfl,hid ⟨fun _=>j.out,by simp⟩⟩
   ·have m:(q == 0)=false:=beq_eq_false_iff_ne.2 hz0;clear hz0;go_wp2_with fail;refine(h2.out _).mono ?_;rintro e w1 ⟨rfl,rfl⟩;go_wp2_with fail;go_ret;exact⟨by rw[hr.out];rfl,rfl⟩
  |
   2,_=>
   have j:p=0:=hf.out.1 (by omega);have l:q=0:=hf.out.2 (by omega);have hr:=f.out;rw[if_pos j,l] at hr;replace hr:=hid hr;clear j l;go_wp2_with fail;go_ret;exact⟨by rw[hr.out];rfl,rfl⟩
theorem Xuj(a b c d:Int)(w:World):
 Calls Tryz.prog 227 #[.agg #[.int .i64 a, .int .i64 b], .agg #[.int .i64 c, .int .i64 d]] w fun e w'=>e= .returned (.bool (Par.ltK a b c d))∧Below w.heap.size w w':=by
 have i:=X0l (X0g w #[.int .i64 a, .int .i64 b] 232) (.cells #[.int .i64 c, .int .i64 d] 232);have g:=X0g (w.alloc (.cells #[.int .i64 a, .int .i64 b] 232)) #[.int .i64 c, .int .i64 d] 232;rw[show (w.alloc (.cells #[.int .i64 a, .int .i64 b] 232)).heap.size=w.heap.size+1 by simp] at g;have f:Below w.heap.size w ((w.alloc (.cells #[.int .i64 a, .int .i64 b] 232)).alloc (.cells #[.int .i64 c, .int .i64 d] 232)):=(X04 w _).alloc (by simp) _
 have h:=hid fun n=>Xm0 a b c d w.heap.size (w.heap.size+1) (((w.alloc (.cells #[.int .i64 a, .int .i64 b] 232)).alloc (.cells #[.int .i64 c, .int .i64 d] 232)).drewN n)
  (X00 (X9L i n) 0 _ rfl) (X00 (X9L i n) 1 _ rfl) (X00 (X9L g n) 0 _ rfl) (X00 (X9L g n) 1 _ rfl)
 have j:=Par.XF0 a b c d;obtain⟨z,hz⟩: ∃z,Par.cmpK a b c d=z:=⟨_,rfl⟩;rw[hz] at h j;rw[←j];replace f:=hid f;clear i g hz j;go_enter Tryz.func227,Tryz.ntmps227;go_wp2_with fail;go_quiet ((go_at_call 232;exact Xpb (h.out _)));go_wp2_with fail;go_ret;exact⟨rfl,f.out.trans ((X0U _ _).mono f.out.size)⟩
def Held(a b:Int)(g:Nat)(w:World):Prop:=w.cell? ⟨g,0,none⟩=some (.int .i64 a)∧w.cell? ⟨g,1,none⟩=some (.int .i64 b)
theorem X4x{a b:Int}{g B:Nat}{w w':World}(h:Held a b g w)(hb:Below B w w')(hg:g<B):Held a b g w':=⟨by rw[hb.cell hg];exact h.1,by rw[hb.cell hg];exact h.2⟩
theorem XjW(a b:Int)(k:Nat)(hk:k<307)(x y:Int)(hx:(Par.T[k]'(by rw[Par.rows];exact hk)).1=x)(hy:(Par.T[k]'(by rw[Par.rows];exact hk)).2.1=y)
 (g:Nat) (w:World) (hg:g<w.heap.size) (hh:Held a b g w):
 Calls Tryz.prog 226 #[.int .i64 k, .pointer (some ⟨g,0,none⟩)] w fun e w'=>e= .returned (.bool (!(Par.ltK x y a b)))∧Below w.heap.size w w':=by
 have f:=hid (Xuh k hk x y hx hy);have c:=Xuj x y a b;obtain⟨z,hz⟩: ∃z,Par.ltK x y a b=z:=⟨_,rfl⟩;rw[hz] at c ⊢;replace c:=hid c;clear hz hx hy;replace hh:=hid hh;replace hg:=hid hg;go_enter Tryz.func226,Tryz.ntmps226;go_wp2_with fail;refine wp_region_held_drew (S:=fun w'=>w'.cell? ⟨g,0,none⟩=some (.int .i64 a)∧w'.cell? ⟨g,1,none⟩=some (.int .i64 b)) (by kernel_rfl) (hh.out) (fun hS=>?_);refine' tk 0 rfl hS ?_;try simp only[putA]
 refine' tk 2 rfl hS ?_;try simp only[putA]
 refine rdy 1 rfl fun K hK=>?_;go_simp;refine(f.out _).mono ?_;rintro e w1 ⟨rfl,i⟩;have d:=hid ((X0U w 1).trans (i.mono (Nat.le_refl _)));clear i;go_wp2_with fail;refine hK.out _ _ (X4x hh.out d.out hg.out) (fun hSn=>?_);clear hS;have hS:=hSn;clear hSn;clear hK K;try simp only[putA]
 refine rdy 3 rfl fun K hK=>?_;go_simp;refine(c.out _).mono ?_;rintro e w2 ⟨rfl,j⟩;have h:=hid (d.out.trans (j.mono d.out.size));clear j;go_wp2_with fail;refine hK.out _ _ (X4x hh.out h.out hg.out) (fun hSn=>?_);clear hS;have hS:=hSn;clear hSn;clear hK K;try simp only[putA]
 refine' tk 4 rfl hS ?_;try simp only[putA]
 refine' tk 5 rfl hS ?_;try simp only[putA]
 refine wpAnyH_done (by kernel_rfl) ?_ _;all_goals go_wp2_with fail
 go_ret;exact⟨rfl,h.out⟩
theorem Xuk(a b:Int)(g:Nat)(w:World)(hg:g<w.heap.size)(hh:Held a b g w):
 Calls Tryz.prog 225 #[.int .i64 307, .func (.func 226) #[] #[.pointer (some ⟨g,0,none⟩)]] w fun e w'=>e= .returned (.int .i64 (Par.posJ Par.T a b:Nat))∧Below w.heap.size w w':=by
 have l:=Par.XEs Par.T a b;rw[Par.rows] at l;have f:=fun k hk=>Par.Xeg Par.up a b k hk;obtain⟨p,hp⟩: ∃p,Par.posJ Par.T a b=p:=⟨_,rfl⟩;rw[hp] at l f ⊢;replace f:=hid f;replace hp:=hid hp;replace hh:=hid hh;replace hg:=hid hg;go_enter Tryz.func225,Tryz.ntmps225;go_wp2_with fail;go_loopg [5,6] 307 (fun n i j wr=>∃x y:Nat,i= .int .i64 x∧j= .int .i64 y∧x≤p∧p≤y∧y≤307∧n=y - x∧Below w.heap.size w wr)
 case atStart=>exact⟨0,307,rfl,rfl,Nat.zero_le _,l,Nat.le_refl _,rfl,Below.refl _ _⟩
 case round=>
  obtain⟨x,y,rfl,rfl,hx,hy,r,rfl,c⟩:=hrel;by_cases hxy:x<y
  ·have m:(x:Int)<(y:Int):=by omega
   have hk:(x+y) / 2<307:=by omega
   have o:(x+y) / 2<Par.T.length:=by rw[Par.rows];exact hk
   have hl:=f.out _ o;have d:=XjW a b _ hk _ _ rfl rfl g wr (Nat.lt_of_lt_of_le hg.out c.size) (X4x hh.out c hg.out);obtain⟨z,hz⟩: ∃z,Par.ltK (Par.T[(x+y) / 2]'o).1 (Par.T[(x+y) / 2]'o).2.1 a b=z:=⟨_,rfl⟩;rw[hz] at hl d;replace d:=hid d;replace c:=hid c;clear hz;cases z with
   |
    true=>
    have q:=hl.1 rfl;clear hl;go_wp2_with fail;refine d.out.mono ?_;rintro e w1 ⟨rfl,hb⟩;replace hb:=hid (c.out.trans (hb.mono c.out.size));go_wp2_with fail;go_roundg (y - ((x+y) / 2+1))
    case measure=>omega
    case rel=>exact⟨(x+y) / 2+1,y,by go_num,rfl,by omega,hy,r,rfl,hb.out⟩
   |
    false=>
    have q: ¬(x+y) / 2<p:=fun h=>absurd (hl.2 h) (by simp);clear hl;go_wp2_with fail;refine d.out.mono ?_;rintro e w1 ⟨rfl,hb⟩;replace hb:=hid (c.out.trans (hb.mono c.out.size));go_wp2_with fail;go_roundg ((x+y) / 2 - x)
    case measure=>omega
    case rel=>exact⟨x,(x+y) / 2,rfl,by go_num,hx,by omega,by omega,rfl,hb.out⟩
  ·obtain rfl:x=p:=by omega
   have m:decide ((x:Int)<(y:Int))=false:=by simp;omega
   replace c:=hid c;go_wp2_with fail;go_ret;exact⟨rfl,c.out⟩
theorem eqTwo(a b c d:Int)(w:World):(Op.equalIn 10000 232 (.agg #[.int .i64 a, .int .i64 b]) (.agg #[.int .i64 c, .int .i64 d])).run Tryz.prog w= .ok (decide (a=c∧b=d)) w:=by
 have u3:=Tryz.underlying3;have a3:=Tryz.isAgg3;have z3:=Tryz.sizeOf3;rw[show (10000:Nat)=9999+1 from rfl,Op.equalIn];simp only[Sem.run_bind,run_underlying Tryz.underlying232,Result.andThen_ok];simp only[Std.Legacy.Range.forIn_eq_forIn_range',Std.Legacy.Range.size,Nat.sub_zero,Nat.add_sub_cancel,Nat.div_one,List.range'_succ,List.range'_zero,List.forIn_cons,List.forIn_nil];go_simp;by_cases h1:a=c <;> by_cases h2:b=d <;> simp [h1,h2]
theorem XxD(a b:Int)(w:World):
 Calls Tryz.prog 210 #[.agg #[.int .i64 a, .int .i64 b]] w fun e w'=>e= .returned (optI (Par.lookJ Par.T a b))∧Below w.heap.size w w':=by
 have s:=X0g w #[.int .i64 a, .int .i64 b] 232;have i:Held a b w.heap.size (w.alloc (.cells #[.int .i64 a, .int .i64 b] 232)):=⟨X00 s 0 _ rfl,X00 s 1 _ rfl⟩;have d:=Xuk a b w.heap.size _ (by simp) i;have A:=Par.XEs Par.T a b;rw[Par.rows] at A;have g:=Par.XCx Par.up a b;have q:=Par.XDC Par.up a b;obtain⟨p,hp⟩: ∃p,Par.posJ Par.T a b=p:=⟨_,rfl⟩;simp only[hp] at A g q d;replace hp:=hid hp;replace d:=hid d;replace i:=hid i;clear s;by_cases hlt:p<307
 ·have C:p<Par.T.length:=by rw[Par.rows];exact hlt
  have G:((p:Int) == 307)=false:=beq_eq_false_iff_ne.2 (by omega);have k:=hid (Xuh p hlt _ _ rfl rfl);have j:=hid (Xec p 2 hlt (by omega) _ rfl);replace g:=g C;have l: ¬((Par.T[p]'C).1=a∧(Par.T[p]'C).2.1=b)→Par.lookJ Par.T a b=none:=fun h=>q fun _=>h;unfold Par.nth at j;simp only[show ¬(2=0) by decide,show ¬(2=1) by decide,if_false] at j;obtain⟨⟨x,y,z⟩,hr⟩: ∃r,Par.T[p]'C=r:=⟨_,rfl⟩;simp only[hr] at k j g l;clear q hr;by_cases hxy:x=a∧y=b
  ·have f:=g hxy.1 hxy.2;obtain⟨E,F⟩:=hxy;rw[f];clear g l f;subst E F;have t:=eqTwo x y x y;rw[decide_eq_true ⟨rfl,rfl⟩] at t;go_enter Tryz.func210,Tryz.ntmps210;go_wp2_with fail;refine d.out.mono ?_;rintro e w1 ⟨rfl,c⟩;have o:=hid (X4x i.out c (by simp));have u:=hid (show w.heap.size<w1.heap.size from Nat.lt_of_lt_of_le (by simp) c.size);replace c:=hid (X1v c);go_wp2_with fail;refine wp_region_held_drew (S:=fun w'=>w'.cell? ⟨w.heap.size,0,none⟩=some (.int .i64 x)∧w'.cell? ⟨w.heap.size,1,none⟩=some (.int .i64 y)) (by kernel_rfl) (o.out) (fun hS=>?_);refine' tk 0 rfl hS ?_;try simp only[putA]
   refine' tk 1 rfl hS ?_;try simp only[putA]
   refine' tk 2 rfl hS ?_;try simp only[putA]
   refine' tk 3 rfl hS ?_;try simp only[putA]
   refine' tk 5 rfl hS ?_;try simp only[putA]
   refine rdy 4 rfl fun K hK=>?_;go_simp;refine(k.out _).mono ?_;rintro e w2 ⟨rfl,n⟩;have m:=hid ((X0U w1 1).trans (n.mono (Nat.le_refl _)));clear n;go_wp2_with fail;refine hK.out _ _ (X4x o.out m.out u.out) (fun hSn=>?_);clear hS;have hS:=hSn;clear hSn;clear hK K;try simp only[putA]
   refine' tk 6 rfl hS ?_;try simp only[putA]
   refine' tk 7 rfl hS ?_;try simp only[putA]
   refine wpAnyH_done (by kernel_rfl) ?_ _;all_goals go_wp2_with fail
   refine(j.out _).mono ?_;rintro e w3 ⟨rfl,v⟩;have B:=hid (c.out.trans ((m.out.trans (v.mono m.out.size)).mono c.out.size));clear v;go_wp2_with fail
   go_ret2
   exact⟨rfl,B.out⟩
  ·have f:=l hxy;rw[f];clear g l f j;have t:=eqTwo x y a b;rw[decide_eq_false hxy] at t;clear hxy;go_enter Tryz.func210,Tryz.ntmps210;go_wp2_with fail;refine d.out.mono ?_;rintro e w1 ⟨rfl,c⟩;have o:=hid (X4x i.out c (by simp));have u:=hid (show w.heap.size<w1.heap.size from Nat.lt_of_lt_of_le (by simp) c.size);replace c:=hid (X1v c);go_wp2_with fail;refine wp_region_held_drew (S:=fun w'=>w'.cell? ⟨w.heap.size,0,none⟩=some (.int .i64 a)∧w'.cell? ⟨w.heap.size,1,none⟩=some (.int .i64 b)) (by kernel_rfl) (o.out) (fun hS=>?_);refine' tk 0 rfl hS ?_;try simp only[putA]
   refine' tk 1 rfl hS ?_;try simp only[putA]
   refine' tk 2 rfl hS ?_;try simp only[putA]
   refine' tk 3 rfl hS ?_;try simp only[putA]
   refine' tk 5 rfl hS ?_;try simp only[putA]
   refine rdy 4 rfl fun K hK=>?_;go_simp;refine(k.out _).mono ?_;rintro e w2 ⟨rfl,n⟩;have m:=hid ((X0U w1 1).trans (n.mono (Nat.le_refl _)));clear n;go_wp2_with fail;refine hK.out _ _ (X4x o.out m.out u.out) (fun hSn=>?_);clear hS;have hS:=hSn;clear hSn;clear hK K;try simp only[putA]
   refine' tk 6 rfl hS ?_;try simp only[putA]
   refine' tk 7 rfl hS ?_;try simp only[putA]
   refine wpAnyH_done (by kernel_rfl) ?_ _;all_goals go_wp2_with fail
   go_ret2
   exact⟨rfl,c.out.trans (m.out.mono c.out.size)⟩
 ·have f:=q fun h=>absurd (show p<307 by rw[←Par.rows];exact h) hlt;have D:p=307:=by omega
  subst D;rw[f];clear f q g;go_enter Tryz.func210,Tryz.ntmps210;go_wp2_with fail;refine d.out.mono ?_;rintro e w1 ⟨rfl,c⟩;replace c:=hid (X1v c);go_wp2_with fail;refine wp_region_held_drew (S:=fun _=>True) (by kernel_rfl) (trivial) (fun hS=>?_);refine' tk 0 rfl hS ?_;try simp only[putA]
  refine' tk 1 rfl hS ?_;try simp only[putA]
  refine' tk 2 rfl hS ?_;try simp only[putA]
  refine' tkN 3 rfl hS ?_;try simp only[putA]
  refine' tkN 4 rfl hS ?_;try simp only[putA]
  refine' tkN 5 rfl hS ?_;try simp only[putA]
  refine' tkN 6 rfl hS ?_;try simp only[putA]
  refine' tk 7 rfl hS ?_;try simp only[putA]
  refine wpAnyH_done (by kernel_rfl) ?_ _;all_goals go_wp2_with fail
  go_ret2
  exact⟨rfl,c.out.trans ((X0U w1 1).mono c.out.size)⟩
theorem X89(r f l:Int)(w:World):
 Calls Tryz.prog 208 #[.int .i64 r, .int .i64 f, .int .i64 l] w fun e w'=>e= .returned (.bool (decide (f≤r) && decide (r≤l)))∧w=w':=by
 by_cases h1:f≤r
 ·by_cases h2:r≤l
  ·go_enter Tryz.func208,Tryz.ntmps208;go_wp2_with fail;go_ret;exact⟨by simp [h1,h2],rfl⟩
  ·have b:decide (r≤l)=false:=decide_eq_false h2;go_enter Tryz.func208,Tryz.ntmps208;go_wp2_with fail;go_ret;exact⟨by simp,rfl⟩
 ·have a:decide (f≤r)=false:=decide_eq_false h1;go_enter Tryz.func208,Tryz.ntmps208;go_wp2_with fail;go_ret;exact⟨by simp,rfl⟩
def openB(r:Int):Bool:=decide (44032≤r) && decide (r≤55203) && decide ((r - 44032) % 28=0)
theorem XxE(r:Int)(w:World):
 Calls Tryz.prog 209 #[.int .i64 r] w fun e w'=>e= .returned (.bool (openB r))∧w=w':=by
 have hw:=X89 r 44032 55203;unfold openB;by_cases h1:44032≤r∧r≤55203
 ·obtain⟨a,b⟩:=h1;rw[show (decide (44032≤r) && decide (r≤55203))=true by simp [a,b]] at hw ⊢;replace hw:=hid hw;obtain⟨s,hs⟩: ∃s,r - 44032=s:=⟨_,rfl⟩;have d:0≤s:=by omega
  have f:s<11172:=by omega
  replace hs:=hid hs;have hr:r - 44032=s:=hs.out;by_cases h28:s % 28=0
  ·rw[hr];go_enter Tryz.func209,Tryz.ntmps209;go_wp2_with fail;refine(hw.out _).mono ?_;rintro e w1 ⟨rfl,rfl⟩;go_wp2_with fail;go_ret;exact⟨by simp [h28],rfl⟩
  ·have c:(s % 28 == 0)=false:=beq_eq_false_iff_ne.2 h28;rw[hr];go_enter Tryz.func209,Tryz.ntmps209;go_wp2_with fail;refine(hw.out _).mono ?_;rintro e w1 ⟨rfl,rfl⟩;go_wp2_with fail;go_ret;exact⟨by simp [h28],rfl⟩
 ·rw[show (decide (44032≤r) && decide (r≤55203))=false by simp;omega] at hw ⊢;replace hw:=hid hw;clear h1;go_enter Tryz.func209,Tryz.ntmps209;go_wp2_with fail;refine(hw.out _).mono ?_;rintro e w1 ⟨rfl,rfl⟩;go_wp2_with fail;go_ret;exact⟨by simp,rfl⟩
def Xul(o:Option Int)(w:World)(e:Ending)(w':World):Prop:=e= .returned (optI o)∧Below w.heap.size w w'
theorem X8a(a b:Int)(w:World):
 Calls Tryz.prog 182 #[.int .i64 a, .int .i64 b] w (Xul (Par.joinI a b) w):=by
 have ha:=X89 a 4352 4370;have hb:=X89 b 4449 4469;have ho:=XxE a;have ht:=X89 b 4520 4546;have hf:=XxD a b;by_cases h1:4352≤a∧a≤4370
 ·rw[show (decide (4352≤a) && decide (a≤4370))=true by simp [h1]] at ha;have j: ¬Par.LVT a b:=by unfold Par.LVT;omega
  have d:openB a=false:=by unfold openB;simp;omega
  rw[d] at ho;by_cases h2:4449≤b∧b≤4469
  ·rw[show (decide (4449≤b) && decide (b≤4469))=true by simp [h2]] at hb;have c:Par.joinI a b=some (44032+((a - 4352) *21+b - 4449) *28):=by
    unfold Par.joinI;rw[if_pos (show Par.LV a b by unfold Par.LV;omega)]
    congr 1
    omega
   rw[c];obtain⟨k,l⟩:=h1;obtain⟨m,n⟩:=h2;replace ha:=hid ha;replace hb:=hid hb;clear ho ht hf c j d;go_enter Tryz.func182,Tryz.ntmps182;go_wp2_with fail;refine(ha.out _).mono ?_;rintro e w1 ⟨rfl,rfl⟩;go_wp2_with fail;refine(hb.out _).mono ?_;rintro e w1 ⟨rfl,rfl⟩;go_wp2_with fail
   go_ret2
   exact⟨rfl,Below.refl _ _⟩
  ·rw[show (decide (4449≤b) && decide (b≤4469))=false by simp;omega] at hb;have c:Par.joinI a b=Par.lookJ Par.T a b:=by
    unfold Par.joinI;rw[if_neg (show ¬Par.LV a b by unfold Par.LV;omega),if_neg j]
   rw[c];obtain⟨o,g⟩: ∃o,Par.lookJ Par.T a b=o:=⟨_,rfl⟩;rw[g] at hf ⊢;replace ha:=hid ha;replace hb:=hid hb;replace ho:=hid ho;replace hf:=hid hf;clear ht c j d g h1 h2;cases o;all_goals
    go_enter Tryz.func182,Tryz.ntmps182;go_wp2_with fail;refine(ha.out _).mono ?_;rintro e w1 ⟨rfl,rfl⟩;go_wp2_with fail;refine(hb.out _).mono ?_;rintro e w1 ⟨rfl,rfl⟩;go_wp2_with fail;refine(ho.out _).mono ?_;rintro e w1 ⟨rfl,rfl⟩;go_wp2_with fail;refine(hf.out _).mono ?_;rintro e w1 ⟨rfl,f⟩;replace f:=hid f;unfold optI;dsimp only
    go_wp2_with fail
    go_ret2
    exact⟨rfl,f.out⟩
 ·rw[show (decide (4352≤a) && decide (a≤4370))=false by simp;omega] at ha;have h: ¬Par.LV a b:=by unfold Par.LV;omega
  by_cases d:openB a=true
  ·rw[d] at ho;by_cases h2:4520≤b∧b≤4546
   ·rw[show (decide (4520≤b) && decide (b≤4546))=true by simp [h2]] at ht;unfold openB at d;simp only[Bool.and_eq_true,decide_eq_true_eq] at d;have c:Par.joinI a b=some (a+b - 4519):=by
     unfold Par.joinI;rw[if_neg h,if_pos (show Par.LVT a b by unfold Par.LVT;omega)]
    rw[c];obtain⟨⟨k,l⟩,_⟩:=d;obtain⟨m,n⟩:=h2;replace ha:=hid ha;replace ho:=hid ho;replace ht:=hid ht;clear hb hf c h h1;go_enter Tryz.func182,Tryz.ntmps182;go_wp2_with fail;refine(ha.out _).mono ?_;rintro e w1 ⟨rfl,rfl⟩;go_wp2_with fail;refine(ho.out _).mono ?_;rintro e w1 ⟨rfl,rfl⟩;go_wp2_with fail;refine(ht.out _).mono ?_;rintro e w1 ⟨rfl,rfl⟩;go_wp2_with fail
    go_ret2
    exact⟨rfl,Below.refl _ _⟩
   ·rw[show (decide (4520≤b) && decide (b≤4546))=false by simp;omega] at ht;have c:Par.joinI a b=Par.lookJ Par.T a b:=by
     unfold Par.joinI;rw[if_neg h,if_neg (show ¬Par.LVT a b by unfold Par.LVT;omega)]
    rw[c];obtain⟨o,g⟩: ∃o,Par.lookJ Par.T a b=o:=⟨_,rfl⟩;rw[g] at hf ⊢;replace ha:=hid ha;replace ho:=hid ho;replace ht:=hid ht;replace hf:=hid hf;clear hb c h d g h1 h2;cases o;all_goals
     go_enter Tryz.func182,Tryz.ntmps182;go_wp2_with fail;refine(ha.out _).mono ?_;rintro e w1 ⟨rfl,rfl⟩;go_wp2_with fail;refine(ho.out _).mono ?_;rintro e w1 ⟨rfl,rfl⟩;go_wp2_with fail;refine(ht.out _).mono ?_;rintro e w1 ⟨rfl,rfl⟩;go_wp2_with fail;refine(hf.out _).mono ?_;rintro e w1 ⟨rfl,f⟩;replace f:=hid f;unfold optI;dsimp only
     go_wp2_with fail
     go_ret2
     exact⟨rfl,f.out⟩
  ·have i:openB a=false:=by simpa using d
   rw[i] at ho;have c:Par.joinI a b=Par.lookJ Par.T a b:=by
    unfold Par.joinI;rw[if_neg h,if_neg (show ¬Par.LVT a b by
     unfold Par.LVT;unfold openB at d;simp only[Bool.and_eq_true,decide_eq_true_eq] at d;omega)]
   rw[c];obtain⟨o,g⟩: ∃o,Par.lookJ Par.T a b=o:=⟨_,rfl⟩;rw[g] at hf ⊢;replace ha:=hid ha;replace ho:=hid ho;replace hf:=hid hf;clear hb ht c h d i g h1;cases o;all_goals
    go_enter Tryz.func182,Tryz.ntmps182;go_wp2_with fail;refine(ha.out _).mono ?_;rintro e w1 ⟨rfl,rfl⟩;go_wp2_with fail;refine(ho.out _).mono ?_;rintro e w1 ⟨rfl,rfl⟩;go_wp2_with fail;refine(hf.out _).mono ?_;rintro e w1 ⟨rfl,f⟩;replace f:=hid f;unfold optI;dsimp only
    go_wp2_with fail
    go_ret2
    exact⟨rfl,f.out⟩
def XEq:Prop:=∀ (a b x:Int),Par.joinI a b=some x→∀w,Calls Tryz.prog 182 #[.int .i64 a, .int .i64 b] w fun e w'=>e= .returned (.tuple #[.int .i64 x, .bool true])∧Below w.heap.size w w'
def XEr:Prop:=∀ (a b:Int),Par.joinI a b=none→∀w,Calls Tryz.prog 182 #[.int .i64 a, .int .i64 b] w fun e w'=>e= .returned (.tuple #[.int .i64 0, .bool false])∧Below w.heap.size w w'
theorem XEo:XEq:=fun a b x h w=>by
 have:=X8a a b w;rw[h] at this;exact this
theorem XEp:XEr:=fun a b h w=>by
 have:=X8a a b w;rw[h] at this;exact this
end Go.Proofs.YtkofnpkopbnocaaGreatDoor
