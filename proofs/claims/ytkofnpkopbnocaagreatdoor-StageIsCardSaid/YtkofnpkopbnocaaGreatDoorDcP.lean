import Derived.Test.YtkofnpkopbnocaaGreatDoorRows
import Derived.Test.YtkofnpkopbnocaaGreatDoorShelf
import Derived.Lib.Builder
import Derived.Lib.RuneBytes
import Derived.Laws.Externs
import Derived.WalkKit
import Derived.WalkSpells
import Derived.WalkLawsBesides
import Derived.Test.YtkofnpkopbnocaaGreatDoorKP
import Derived.Test.YtkofnpkopbnocaaGreatDoorMatP
import Derived.Test.YtkofnpkopbnocaaGreatDoorBasP
import Derived.Deep.QuietTactic
import Derived.BigQuiet
import Derived.Lib.Hide
import Derived.Test.YtkofnpkopbnocaaGreatDoorG1
set_option linter.unusedSimpArgs false
set_option linter.unusedVariables false
set_option maxRecDepth 100000
set_option maxHeartbeats 4000000
namespace Go.Proofs.YtkofnpkopbnocaaGreatDoor
open Go.RowKit Go.Lib
theorem Xmz:(Tryz.prog.info? 203).map (·.size)=some 2:=by kernel_rfl
theorem XvP:liesAt Tryz.prog Tryz.prog.depth 203 (2 / Tryz.prog.cellsOf 203) 0 203 1=true:=by kernel_rfl
theorem XeK(b:Nat)(w:World)(h0:w.cell? ⟨b,0,none⟩=some (.pointer (some ⟨b,0,none⟩))):
 Calls Tryz.prog 205 #[.pointer (some ⟨b,0,none⟩)] w fun e w'=>e= .returned (.tuple #[])∧w=w':=by
 obtain⟨j,hj,_⟩:=Option.map_eq_some_iff.1 Xmz;go_enter Tryz.func205,Tryz.ntmps205;go_wp2;rw[Lib.run_neq_ptr_same w _ Tryz.underlying201 hj];go_wp2
 go_end0
 exact⟨rfl,rfl⟩
theorem Xcn(b:Nat)(w:World)(h0:w.cell? ⟨b,0,none⟩=some (.pointer none))(hsh:w.shape? b=some (203,2))(hfz:w.frozen? ⟨b,0,none⟩=false):
 Calls Tryz.prog 205 #[.pointer (some ⟨b,0,none⟩)] w fun e w'=>e= .returned (.tuple #[])∧w.setCell ⟨b,0,none⟩ (.pointer (some ⟨b,0,none⟩))=w':=by
 obtain⟨j,hj,a⟩:=Option.map_eq_some_iff.1 Xmz;go_enter Tryz.func205,Tryz.ntmps205;go_wp2;rw[Lib.run_to_unsafe w ⟨b,0,none⟩ Tryz.underlying201 Tryz.underlying238 hj (by rw[a];decide) hsh (Nat.zero_lt_succ 1)];simp only[Result.andThen];rw[Oper.upon_value];go_wp2;rw[run_callFunc_extern Tryz.func223 (by kernel_rfl) (by kernel_rfl) (by kernel_rfl) (e:=Extern.AbiNoEscape.same) (by kernel_rfl)];rw[Lib.run_noEscape];simp only[Result.andThen];rw[Oper.upon_value];go_wp2;rw[Lib.run_from_unsafe w ⟨b,0,none⟩ Tryz.underlying238 Tryz.underlying201 hj hsh XvP];simp only[Result.andThen];rw[Oper.upon_value]
 go_wp2
 go_end0
 exact⟨rfl,rfl⟩
theorem Xgd(B b:Nat)(bs:List Value)(w:World)(h:Lib.IsBuilder 203 5 B b bs w):
 Calls Tryz.prog 205 #[.pointer (some ⟨b,0,none⟩)] w fun e w'=>e= .returned (.tuple #[])∧(Lib.BuilderAt 203 5 B b (.pointer (some ⟨b,0,none⟩)) bs w'∧Below B w w'):=by
 rcases h with h | h
 ·refine(Xcn b w h.cell0 h.shape h.frozen0).mono ?_;rintro e w' ⟨rfl,rfl⟩;exact⟨rfl,h.used _,(Below.refl B w).setCell (p:=⟨b,0,none⟩) h.1 _⟩
 ·refine(XeK b w h.cell0).mono ?_;rintro e w' ⟨rfl,rfl⟩;exact⟨rfl,h,Below.refl B _⟩
theorem Xge(B b:Nat)(bs:List Value)(r:Int)(hr0: -2147483648≤r)(hr1:r≤2147483647)(w:World)(h:Lib.IsBuilder 203 5 B b bs w)(hlen:bs.length+4≤140737488355328)(hBw:B≤w.heap.size):
 Calls Tryz.prog 179 #[.pointer (some ⟨b,0,none⟩), .int .i32 r] w fun e w'=>e= .returned (.tuple #[.int .i64 (Lib.runeCells r).length, .nilIface])∧(Lib.BuilderAt 203 5 B b (.pointer (some ⟨b,0,none⟩)) (bs++Lib.runeCells r) w'∧Below B w w'):=by
 have q:=Lib.runeCells_le r;go_enter Tryz.func179,Tryz.ntmps179;go_wp2_with (go_at_call 205;refine(Xgd B b bs _ h).mono ?_);rintro e w1 ⟨rfl,h1,f⟩;obtain⟨hB,v,j,c,n⟩:=h1;obtain⟨ao,cap,rfl⟩: ∃ao cap,v= .slice ao bs.length cap:=by
  rcases c.2 with⟨hv,h0⟩ | ⟨g,cap,l,hv,_⟩
  ·exact⟨none,0,by rw[hv,h0]⟩
  ·exact⟨_,_,hv⟩
 have c0:w1.cell? ⟨b,0,none⟩=some (.pointer (some ⟨b,0,none⟩)):=by rw[Lib.cell_of_heap j];rfl
 have c1:w1.cell? ⟨b,1,none⟩=some (.slice ao bs.length cap):=by rw[Lib.cell_of_heap j];rfl
 go_wp2_with (go_at_call 206;refine(Tryz.utf8_AppendRune_plain B _ bs.length bs r hr0 hr1 _ c hlen (by have:=f.size;omega)).mono ?_);rintro e w2 ⟨v',rfl,d,o,a⟩;have m:b<w1.heap.size:=by
  rcases Nat.lt_or_ge b w1.heap.size with h' | h'
  ·exact h'
  ·simp [Array.getElem?_eq_none h'] at j
 have i:w2.heap[b]? =some (.cells #[.pointer (some ⟨b,0,none⟩), .slice ao bs.length cap] 203 (0,0)):=by
  rw[a.block b (by simp;omega) (fun e=>n e.symm),Lib.alloc_old w1 _ b m];exact j
 have d0:w2.cell? ⟨b,0,none⟩=some (.pointer (some ⟨b,0,none⟩)):=by rw[Lib.cell_of_heap i];rfl
 have d1:w2.cell? ⟨b,1,none⟩=some (.slice ao bs.length cap):=by rw[Lib.cell_of_heap i];rfl
 have f1:w2.frozen? ⟨b,1,none⟩=false:=Lib.frozen_of_heap i 1;obtain⟨g,cap',rfl⟩: ∃g cap',v'= .slice (some ⟨g,0,none⟩) (bs.length+(Lib.runeCells r).length) cap':=by
  rcases d.2 with⟨_,h0⟩ | ⟨g,cap',l,hv,_⟩
  ·omega
  ·exact⟨g,cap',hv⟩
 go_wp2
 go_ret2
 refine⟨?_,?_,?_⟩
 ·have e:((bs.length:Int)+((Lib.runeCells r).length:Int) - (bs.length:Int))=((Lib.runeCells r).length:Int):=by omega
  simp [e]
 ·exact Lib.BuilderAt.put (T:=203) (e:=5) hB i (bs':=bs++Lib.runeCells r) (by simpa using d) (by decide)
 ·exact((f.alloc (by have:=f.size;omega) _).grown a (by have:=f.size;simp;omega) (fun k hk=>(c.lt k hk).1)).setCell (p:=⟨b,1,none⟩) hB _
end Go.Proofs.YtkofnpkopbnocaaGreatDoor
namespace Go.Proofs.YtkofnpkopbnocaaGreatDoor.Tx
open Go.RowKit Go.Lib
theorem X8x(r:Int)(w:World):
 Calls Tryz.prog 180 #[.int .i64 r] w fun e w'=>e= .returned (.int .i32 (Dec.fix r))∧w=w':=by
 cases hg:Dec.goodB r with
 |
  true=>
  have hr:0≤r∧r≤1114111:=by unfold Dec.goodB at hg;grind
  obtain⟨h0,h1⟩:=hr;have H:=hid hg;clear hg;go_enter Tryz.func180,Tryz.ntmps180;go_wp2_with (go_at_call 207;refine(X2w _ _).mono ?_;rintro e w1 ⟨rfl,rfl⟩;rw[H.out]);go_ret;exact⟨by unfold Dec.fix;rw[H.out];rfl,rfl⟩
 |
  false=>
  have H:=hid hg;clear hg;go_enter Tryz.func180,Tryz.ntmps180;go_wp2_with (go_at_call 207;refine(X2w _ _).mono ?_;rintro e w1 ⟨rfl,rfl⟩;rw[H.out]);go_ret;exact⟨by unfold Dec.fix;rw[H.out];rfl,rfl⟩
def X8y(w:World)(l:List Int)(k:Nat)(wr:World):Prop:=
 Lib.IsBuilder 203 5 w.heap.size w.heap.size (Lib.byteCells (Dec.textL (l.take k))) wr∧Below w.heap.size w wr
theorem X46(w:World)(l:List Int):X8y w l 0 (w.alloc (.cells #[.pointer none, .slice none 0 0] 203)):=by
 refine⟨.inl ⟨Nat.le_refl _, .slice none 0 0,heap_alloc_new w _,World.ownsRow_nil _ _ _ _,by simp [Value.ownBlock]⟩,(Below.refl _ _).alloc (Nat.le_refl _) _⟩
theorem X74{w w3:World}{l:List Int}{k:Nat}{r:Int}(hk:k<l.length)(hr:l[k]=r)
 (h1:Lib.BuilderAt 203 5 w.heap.size w.heap.size (.pointer (some ⟨w.heap.size,0,none⟩)) (Lib.byteCells (Dec.textL (l.take k))++Lib.runeCells (Dec.fix r)) w3) (h3:Below w.heap.size w w3):X8y w l (k+1) w3:=by
 refine⟨.inr ?_,h3⟩;rw[List.take_succ_eq_append_getElem hk,hr,Dec.Xpk,Lib.byteCells_append,Lib.byteCells_encodeRune];exact h1
theorem Xck(b off cap:Nat)(l:List Int)(w:World)(hlen:l.length≤100000)(hb:b<w.heap.size)(hc: ∀i (h:i<l.length),w.cell? ⟨b,off+i,none⟩=some (.int .i64 l[i])):
 Calls Tryz.prog 150 #[.slice (some ⟨b,off,none⟩) l.length cap] w fun e w'=>e= .returned (.string ⟨(Dec.textL l).toArray⟩)∧Below w.heap.size w w':=by
 have q:=hid hc;clear hc;go_enter Tryz.func150,Tryz.ntmps150;go_wp2_with fail
 go_loopw [8] (fun i wr=>∃k:Nat,k≤l.length∧i= .int .i64 k∧X8y w l k wr) (fun i _=>l.length - (RowKit.intOf i).toNat)
 case atStart=>exact⟨0,Nat.zero_le _,rfl,X46 w l⟩
 case round=>
  obtain⟨k,hk,rfl,hr⟩:=hrel;obtain⟨f,c⟩:=hr;by_cases hlt:k<l.length
  ·obtain⟨r,g⟩: ∃r,l[k]=r:=⟨_,rfl⟩;have m:wr.cell? ⟨b,off+k,none⟩=some (.int .i64 r):=by
    rw[c.cell hb,←g];exact q.out k hlt
   have g:=hid g;have f:=hid f;have t:=Dec.Xjf (l.take k);have s:=List.length_take_le k l;obtain⟨n,o⟩:=Dec.XCb r;go_wp2_with fail;refine(X8x r wr).mono ?_;rintro e w1 ⟨rfl,rfl⟩;go_wp2_with fail;refine(Xge w.heap.size w.heap.size _ (Dec.fix r) n o wr f.out (by rw[Lib.byteCells_length];omega) c.size).mono ?_;rintro e w2 ⟨rfl,j,a⟩;have j:=hid j;have d:=c.trans a;clear t s n o m a;go_wp2_with fail
   go_roundw
   case rel=>exact⟨k+1,by omega,by go_num,X74 hlt g.out j.out d⟩
   case measure=>simp [RowKit.intOf];omega
  ·have f:=hid f;have p:k=l.length:=by omega
   have p:=hid p;go_wp2_with fail;refine(Tryz.Builder_String_any w.heap.size w.heap.size _ wr f.out c.size).mono ?_;rintro e w2 ⟨rfl,a⟩;have d:=c.trans a;clear a;go_wp2_with fail;go_ret;exact⟨rfl,d⟩
theorem X75(ap:Option Addr)(ac:Nat)(w:World):
 Calls Tryz.prog 150 #[.slice ap 0 ac] w fun e w'=>e= .returned (.string ⟨(Dec.textL []).toArray⟩)∧Below w.heap.size w w':=by
 have hr:=X46 w [];obtain⟨d,b⟩:=hr;have d:=hid d;go_enter Tryz.func150,Tryz.ntmps150;go_wp2_with fail;refine wp_loop_rounds 1 ?_;rw[rounds_succ];go_wp2_with fail;refine(Tryz.Builder_String_any w.heap.size w.heap.size _ _ d.out b.size).mono ?_;rintro e w2 ⟨rfl,a⟩;have c:=b.trans a;clear a;go_wp2_with fail;go_ret;exact⟨rfl,c⟩
theorem X2d(v:Value)(l:List Int)(w:World)(hlen:l.length≤100000)(hb:RI w v l):
 Calls Tryz.prog 150 #[v] w fun e w'=>e= .returned (.string ⟨(Dec.textL l).toArray⟩)∧Below w.heap.size w w':=by
 rcases hb with⟨rfl,rfl⟩ | ⟨p,cap,rfl,_,hp⟩
 ·exact X75 none 0 w
 ·cases l with
  | nil=>exact X75 (some p) cap w
  |
   cons c l=>
   obtain⟨b,off,rfl,h1,h2⟩:=hp (by simp);exact Xck b off cap (c::l) w hlen h1 h2
end Go.Proofs.YtkofnpkopbnocaaGreatDoor.Tx
namespace Go.Proofs.YtkofnpkopbnocaaGreatDoor.Tx
open Go.RowKit Go.Lib
theorem X19{w:World}(o:Obj)(n:Nat):Below w.heap.size w ((w.alloc o).drewN n):=by
 have h:=(Below.refl w.heap.size w).alloc (Nat.le_refl _) o;exact⟨h.os,h.tape,h.output,h.size,h.block⟩
theorem X4A(s:ByteArray)(w:World)(hT:Lib.Utf8Tabs 0 1 w):
 Calls Tryz.prog 128 #[.string s] w fun e w'=>e= .returned (.bool (Dec.fullB s))∧Below w.heap.size w w':=by
 by_cases h0:s.size=0
 ·have hz:((s.size:Int) == 0)=true:=by simp [h0]
  have a:Dec.fullB s=false:=by simp [Dec.fullB,Dec.fullN,h0]
  have a:=hid a;clear h0;go_enter Tryz.func128,Tryz.ntmps128;go_wp2;go_ret;exact⟨X0p a.out.symm,Below.refl _ _⟩
 ·have y:(0:Int)<(s.size:Int):=by omega
  have t:((s.size:Int) == 0)=false:=beq_eq_false_iff_ne.2 (by omega);obtain⟨x0,n⟩: ∃x0,s.get! 0=x0:=⟨_,rfl⟩;obtain⟨x1,i⟩: ∃x1,s.get! 1=x1:=⟨_,rfl⟩;obtain⟨x2,o⟩: ∃x2,s.get! 2=x2:=⟨_,rfl⟩;have v:s[0]'(by omega)=x0:=by rw[←n];exact(Utf8W.get!_of_lt s 0 (by omega)).symm
  have l0:=x0.toNat_lt;have l1:=x1.toNat_lt;have l2:=x2.toNat_lt;have f:Dec.fullB s=Dec.fullN s.size x0.toNat x1.toNat x2.toNat:=by
   simp only[Dec.fullB,n,i,o]
  rw[f];clear f;have d:=hT.1 x0.toNat (by omega);rcases Lib.firstT_cases x0.toNat with hX | hX | hX | hX | hX | hX | hX | hX | hX
  ·rw[hX] at d;have a:Dec.fullN s.size x0.toNat x1.toNat x2.toNat=true:=by simp [Dec.fullN,hX,h0]
   have a:=hid a;clear hT hX h0;go_enter Tryz.func128,Tryz.ntmps128;go_wp2;go_ret;exact⟨X0p a.out.symm,Below.refl _ _⟩
  ·rw[hX] at d;have a:Dec.fullN s.size x0.toNat x1.toNat x2.toNat=true:=by
    have h1:1≤s.size:=by omega
    simp [Dec.fullN,hX,h0,h1]
   have a:=hid a;clear hT hX h0;go_enter Tryz.func128,Tryz.ntmps128;go_wp2;go_ret;exact⟨X0p a.out.symm,Below.refl _ _⟩
  all_goals
   have ha:=hT.2 (firstT x0.toNat / 16) (by omega);have a:Hid (Dec.fullN s.size x0.toNat x1.toNat x2.toNat=_):=hid (by unfold Dec.fullN;rw[hX]);rw[hX] at d ha;obtain⟨j,k⟩:=ha;obtain⟨lo,c⟩: ∃lo,accLo (firstT x0.toNat / 16)=lo:=⟨_,rfl⟩;obtain⟨hi,b⟩: ∃hi,accHi (firstT x0.toNat / 16)=hi:=⟨_,rfl⟩;rw[hX] at c b;rw[c] at j;rw[b] at k;simp only[Nat.reduceMul,Nat.reduceAdd,Nat.reduceDiv,Int.cast_ofNat_Int] at j k d;have c:=hid c;have b:=hid b;clear hT hX;rcases (by omega:s.size=1∨s.size=2∨s.size=3∨4≤s.size) with hn | hn | hn | hn
   ·have l:decide ((1:Int)<(s.size:Int))=false:=by simp;omega
    have m:decide ((2:Int)<(s.size:Int))=false:=by simp;omega
    have g:(s.size:Int)<2:=by omega
    have H:=hid hn;clear hn h0;go_enter Tryz.func128,Tryz.ntmps128;go_wp2;go_quiet (fail);go_wp2;go_ret;exact⟨X0p (by rw[a.out,H.out];simp),X19 _ _⟩
   ·have l:(1:Int)<(s.size:Int):=by omega
    have m:decide ((2:Int)<(s.size:Int))=false:=by simp;omega
    have g:(s.size:Int)<3:=by omega
    obtain⟨q,r⟩: ∃h:1<s.size,s[1]'h=x1:=⟨by omega,by rw[←i];exact(Utf8W.get!_of_lt s 1 (by omega)).symm⟩;have H:=hid hn;clear hn h0;first
    | (
     go_enter Tryz.func128,Tryz.ntmps128;go_wp2;go_ret;exact⟨X0p (by rw[a.out,H.out];simp),Below.refl _ _⟩)
    | (
     rcases (by omega:x1.toNat<lo∨(¬x1.toNat<lo∧hi<x1.toNat)∨(¬x1.toNat<lo∧¬hi<x1.toNat)) with hb | ⟨hb,hd⟩ | ⟨hb,hd⟩
     ·have e1:decide (x1.toNat<lo)=true:=by simpa using hb
      have H1:=hid hb;clear hb;go_enter Tryz.func128,Tryz.ntmps128;go_wp2;go_quiet (fail);go_wp2;go_ret;exact⟨X0p (by rw[a.out,H.out,c.out,b.out];simp;have:=H1.out;omega),X19 _ _⟩
     ·have e1:decide (x1.toNat<lo)=false:=by simpa using hb
      have e2:decide (hi<x1.toNat)=true:=by simpa using hd
      have H1:=hid hd;clear hb hd;go_enter Tryz.func128,Tryz.ntmps128;go_wp2;go_quiet (fail);go_wp2;go_ret;exact⟨X0p (by rw[a.out,H.out,c.out,b.out];simp;have:=H1.out;omega),X19 _ _⟩
     ·have e1:decide (x1.toNat<lo)=false:=by simpa using hb
      have e2:decide (hi<x1.toNat)=false:=by simpa using hd
      have H1:=hid hb;have H2:=hid hd;clear hb hd;go_enter Tryz.func128,Tryz.ntmps128;go_wp2;go_quiet (fail);go_wp2;go_ret;exact⟨X0p (by rw[a.out,H.out,c.out,b.out];simp;have:=H1.out;have:=H2.out;omega),X19 _ _⟩)
   ·have l:(1:Int)<(s.size:Int):=by omega
    have m:(2:Int)<(s.size:Int):=by omega
    have g:(s.size:Int)<4:=by omega
    obtain⟨q,r⟩: ∃h:1<s.size,s[1]'h=x1:=⟨by omega,by rw[←i];exact(Utf8W.get!_of_lt s 1 (by omega)).symm⟩;obtain⟨u,x⟩: ∃h:2<s.size,s[2]'h=x2:=⟨by omega,by rw[←o];exact(Utf8W.get!_of_lt s 2 (by omega)).symm⟩;have H:=hid hn;clear hn h0;first
    | (
     go_enter Tryz.func128,Tryz.ntmps128;go_wp2;go_ret;exact⟨X0p (by rw[a.out,H.out];simp),Below.refl _ _⟩)
    | (
     rcases (by omega:x1.toNat<lo∨(¬x1.toNat<lo∧hi<x1.toNat)∨(¬x1.toNat<lo∧¬hi<x1.toNat)) with hb | ⟨hb,hd⟩ | ⟨hb,hd⟩
     ·have e1:decide (x1.toNat<lo)=true:=by simpa using hb
      have H1:=hid hb;clear hb;go_enter Tryz.func128,Tryz.ntmps128;go_wp2;go_quiet (fail);go_wp2;go_ret;exact⟨X0p (by rw[a.out,H.out,c.out,b.out];have:=H1.out;simp [this]),X19 _ _⟩
     ·have e1:decide (x1.toNat<lo)=false:=by simpa using hb
      have e2:decide (hi<x1.toNat)=true:=by simpa using hd
      have H1:=hid hd;clear hb hd;go_enter Tryz.func128,Tryz.ntmps128;go_wp2;go_quiet (fail);go_wp2;go_ret;exact⟨X0p (by rw[a.out,H.out,c.out,b.out];have:=H1.out;simp [this]),X19 _ _⟩
     ·have e1:decide (x1.toNat<lo)=false:=by simpa using hb
      have e2:decide (hi<x1.toNat)=false:=by simpa using hd
      have H1:=hid hb;have H2:=hid hd;clear hb hd;rcases (by omega:x2.toNat<128∨(¬x2.toNat<128∧191<x2.toNat)∨(¬x2.toNat<128∧¬191<x2.toNat)) with hb | ⟨hb,hd⟩ | ⟨hb,hd⟩
      ·have e3:decide ((x2.toNat:Int)<128)=true:=by simp;omega
       have H3:=hid hb;clear hb;go_enter Tryz.func128,Tryz.ntmps128;go_wp2;go_quiet (fail);go_wp2;go_ret;exact⟨X0p (by rw[a.out,H.out];have:=H3.out;simp [this]),X19 _ _⟩
      ·have e3:decide ((x2.toNat:Int)<128)=false:=by simp;omega
       have e4:decide ((191:Int)<(x2.toNat:Int))=true:=by simp;omega
       have H3:=hid hd;clear hb hd;go_enter Tryz.func128,Tryz.ntmps128;go_wp2;go_quiet (fail);go_wp2;go_ret;exact⟨X0p (by rw[a.out,H.out];have:=H3.out;simp [this]),X19 _ _⟩
      ·have e3:decide ((x2.toNat:Int)<128)=false:=by simp;omega
       have e4:decide ((191:Int)<(x2.toNat:Int))=false:=by simp;omega
       have H3:=hid hb;have H4:=hid hd;clear hb hd;go_enter Tryz.func128,Tryz.ntmps128;go_wp2;go_quiet (fail);go_wp2;go_ret;exact⟨X0p (by rw[a.out,H.out,c.out,b.out];simp;have:=H1.out;have:=H2.out;have:=H3.out;have:=H4.out;omega),X19 _ _⟩)
   ·have g:(4:Int)≤(s.size:Int):=by omega
    have H:=hid hn;clear h0 hn;go_enter Tryz.func128,Tryz.ntmps128;go_wp2;go_ret;exact⟨X0p (by have h:=H.out;rw[a.out,decide_eq_true (p:=s.size≠0) (by omega)];simp;exact Or.inl (Or.inl (by omega))),Below.refl _ _⟩
def Own(B:Nat)(v:Value)(l:List Int)(w:World):Prop:=w.ownsRow B 3 1 v l.length (l.map (Value.int .i64))
theorem X27(B:Nat)(w:World):Own B (.slice none 0 0) [] w:=World.ownsRow_nil w B 3 1
theorem X6f(B:Nat)(x:Int)(w:World)(hB:B≤w.heap.size):Own B (.slice (some ⟨w.heap.size,0,none⟩) 1 1) [x] (w.alloc (.cells #[.int .i64 x] 3)):=
 ⟨rfl, .inr ⟨w.heap.size,1,#[.int .i64 x],rfl,hB,heap_alloc_new w _,Nat.le_refl _,by decide,rfl,rfl⟩⟩
theorem X1z{s:ByteArray}(h:s.size=0):s.toList.isEmpty=true:=by
 rw[Lib.toList_data];cases s with
 |
  mk d=>
  have h':d.size=0:=h;simpa using h'
theorem X0X{s:ByteArray}(h: ¬s.size=0):s.toList.isEmpty=false:=by
 rw[Lib.toList_data];cases s with
 |
  mk d=>
  have h': ¬d.size=0:=h;simpa using h'
theorem X1C(s:ByteArray)(w:World)(hT:Lib.Utf8Tabs 0 1 w):
 Calls Tryz.prog 98 #[.string s] w fun e w'=>e= .returned (.bool (Dec.begB s))∧Below w.heap.size w w':=by
 by_cases h0:s.size=0
 ·have hs:=X1z h0;have a:Dec.begB s=false:=by simp [Dec.begB,h0]
  have a:=hid a;clear h0;go_enter Tryz.func98,Tryz.ntmps98;go_wp2_with fail;go_ret;exact⟨X0p a.out.symm,Below.refl _ _⟩
 ·have hs:=X0X h0;have H:=hid h0;clear h0;go_enter Tryz.func98,Tryz.ntmps98;go_wp2_with (go_at_call 128;refine(X4A s _ hT).mono ?_;rintro e w1 ⟨rfl,b⟩);go_ret;exact⟨X0p (by simp [Dec.begB,H.out]),b⟩
theorem X0E{w:World}(hT:Lib.Utf8Tabs 0 1 w)(o:Obj):Lib.Utf8Tabs 0 1 (w.alloc o):=Utf8Tabs_below hT ((Below.refl _ _).alloc (Nat.le_refl _) _)
theorem X1s(s:ByteArray)(w:World)(hT:Lib.Utf8Tabs 0 1 w):
 Calls Tryz.prog 74 #[.agg #[.string s]] w fun e w'=>e= .returned (.bool (Dec.saneB s))∧Below w.heap.size w w':=by
 by_cases h0:s.size=0
 ·have hs:=X1z h0;have a:Dec.saneB s=true:=by simp [Dec.saneB,h0]
  have a:=hid a;clear h0;go_enter Tryz.func74,Tryz.ntmps74;go_wp2_with fail;go_ret;exact⟨X0p a.out.symm,(Below.refl _ _).alloc (Nat.le_refl _) _⟩
 ·have hs:=X0X h0;have H:=hid h0;clear h0;go_enter Tryz.func74,Tryz.ntmps74;go_wp2_with (go_at_call 98;refine(X1C s _ (X0E hT _)).mono ?_;rintro e w1 ⟨rfl,b⟩);go_ret;exact⟨X0p (by simp [Dec.saneB,H.out]),X1v b⟩
theorem X3N(s:ByteArray)(w:World)(hT:Lib.Utf8Tabs 0 1 w):
 Calls Tryz.prog 116 #[.agg #[.string s]] w fun e w'=>∃v,e= .returned v∧Own w.heap.size v (if Dec.begB s then [65533] else []) w'∧Below w.heap.size w w':=by
 cases hg:Dec.begB s with
 |
  true=>
  have H:=hid hg;clear hg;go_enter Tryz.func116,Tryz.ntmps116;go_wp2_with (go_at_call 98;refine(X1C s _ (X0E hT _)).mono ?_;rintro e w1 ⟨rfl,a⟩;rw[H.out]);go_ret;have b:=X1v a;exact⟨_,rfl,X6f _ _ _ b.size,b.alloc b.size _⟩
 |
  false=>
  have H:=hid hg;clear hg;go_enter Tryz.func116,Tryz.ntmps116;go_wp2_with (go_at_call 98;refine(X1C s _ (X0E hT _)).mono ?_;rintro e w1 ⟨rfl,a⟩;rw[H.out]);go_ret;exact⟨_,rfl,X27 _ _,X1v a⟩
def Box(w:World)(k:Nat)(v:Value):Prop:=k<w.heap.size∧w.cell? ⟨k,0,none⟩=some v∧w.frozen? ⟨k,0,none⟩=false
theorem X0R(w:World)(v:Value)(T:TypeId):Box (w.alloc (.cells #[v] T)) w.heap.size v:=by
 refine⟨by simp,?_,?_⟩
 ·simp
 ·simp
theorem X0F{w:World}{k:Nat}{v:Value}(h:Box w k v)(o:Obj):Box (w.alloc o) k v:=by
 obtain⟨h0,h1,h2⟩:=h;exact⟨by simp;omega,by rw[World.cell?_alloc_lt _ _ _ h0];exact h1,by rw[World.frozen?_alloc_past _ _ _ h0];exact h2⟩
theorem X0n{w w1:World}{k:Nat}{v:Value}(h:Box w k v)(hb:Below w.heap.size w w1):Box w1 k v:=by
 obtain⟨h0,h1,h2⟩:=h;have:=hb.size;exact⟨by omega,by rw[hb.cell h0];exact h1,by rw[hb.frozen h0];exact h2⟩
theorem X5T{w w1:World}{k:Nat}{v:Value}{row:Option Nat}(h:Box w k v)(hg:w.drew.grownBy w1 row)(hne:some k≠row):Box w1 k v:=by
 obtain⟨h0,h1,h2⟩:=h;have hb:=hg.block k h0 hne;have:=hg.size;exact⟨Nat.lt_of_lt_of_le h0 this,by rw[World.cell?_of_block (w:=w) hb];exact h1,by rw[World.frozen?_of_block (w:=w) hb];exact h2⟩
theorem X6g{B:Nat}{w0 w w1:World}{k n c:Nat}(h:Below B w0 w)(hg:w.drew.grownBy w1 (Value.slice (some ⟨k,0,none⟩) n c).ownBlock)(hB:B≤w.heap.size)(hk:B≤k):Below B w0 w1:=
 h.drew.grown hg hB (fun j hj=>by simp [Value.ownBlock] at hj;omega)
theorem X2l(c:UInt8)(W:World):(convert 140 9 (.slice (some ⟨W.heap.size,0,none⟩) 1 1)).run Tryz.prog (W.alloc (.cells #[.int .u8 c.toNat] 5))= .ok (.string ⟨#[c]⟩) (W.alloc (.cells #[.int .u8 c.toNat] 5)):=by
 refine run_convert_bytes_back (P:=Tryz.prog) _ 140 9 5 ⟨W.heap.size,0,none⟩ 1 [c] Tryz.underlying140 Tryz.underlying5 Tryz.underlying9 ?_;intro j hj;have:j=0:=by simpa using hj
 subst this;simp [Addr.add]
theorem X2M{w w1:World}{o1 o2 o3:Obj}(hT:Lib.Utf8Tabs 0 1 w)(hb1:Below ((w.alloc o1).alloc o2).heap.size ((w.alloc o1).alloc o2) w1):Lib.Utf8Tabs 0 1 (w1.alloc o3):=
 X0E (Utf8Tabs_below (X0E (X0E hT _) _) hb1) _
theorem X2x{w w1:World}{o1 o2:Obj}(hb1:Below ((w.alloc o1).alloc o2).heap.size ((w.alloc o1).alloc o2) w1):Below w.heap.size w w1:=
 (((Below.refl _ _).alloc (Nat.le_refl _) _).alloc (by simp) _).trans (hb1.mono (by simp;omega))
theorem X1j{w w1 w2:World}{o3:Obj}(hb1:Below w.heap.size w w1)(hb2:Below (w1.alloc o3).heap.size (w1.alloc o3) w2):Below w.heap.size w w2:=
 (hb1.alloc hb1.size _).trans (hb2.mono (by have:=hb1.size;simp;omega))
theorem X98(s:ByteArray)(c:UInt8)(w:World)(hT:Lib.Utf8Tabs 0 1 w)(hm:s.size≤3)(hs:Dec.saneB s=true)(hg:Dec.begB (s++⟨#[c]⟩)=true):
 Calls Tryz.prog 109 #[.agg #[.string s], .int .u8 c.toNat] w fun e w'=>e= .returned (.tuple #[.agg #[.string (s++⟨#[c]⟩)], .slice none 0 0])∧Below w.heap.size w w':=by
 have H:=hid hs;have h:=X2l c;obtain⟨b,hb⟩: ∃b,s++(⟨#[c]⟩:ByteArray)=b:=⟨_,rfl⟩;rw[hb] at hg ⊢;have G:=hid hg;clear hs hg;go_enter Tryz.func109,Tryz.ntmps109;go_wp2_with fail;refine(X1s s _ (X0E (X0E hT _) _)).mono ?_;rintro e w1 ⟨rfl,a⟩;obtain⟨z0,q0,r0⟩:=X0n (X0F (X0R w (.string s) 40) _) a;have d:=X0n (X0R (w.alloc (Obj.cells #[Value.string s] 40)) (.string { data:= #[] }) 40) a;simp only[World.size_alloc] at d;have X1:=hid d;clear d;rw[H.out];go_wp2_with fail;refine(X1C b _ (X2M hT a)).mono ?_;rintro e w2 ⟨rfl,f⟩;obtain⟨z1,q1,r1⟩:=X0n (X0F X1.out _) f;have g:=X1j (X2x a) f;rw[G.out]
 clear hT;go_wp2_with fail;refine bodyPost_ret (v:= .tuple #[.agg #[.string b], .slice none 0 0]) (by simp [results,Tryz.results109,go_sem,q1]) rfl ⟨rfl,?_⟩;exact g.setCell (by simp) _
theorem X1W(B:Nat)(x:Int)(w:World)(k:Nat)(hk:w.heap.size=k)(hB:B≤w.heap.size):Own B (.slice (some ⟨k,0,none⟩) 1 1) [x] (w.alloc (.cells #[.int .i64 x] 3)):=by
 subst hk;exact X6f B x w hB
theorem X2H:(Tryz.prog.info? 3).map (fun i=>(i.zero,i.size,i.bytes))=some (some (.int .i64 0),1,8):=by kernel_rfl
theorem X5r{B:Nat}{v:Value}{l:List Int}{w:World}(h:Own B v l w):Own B v l w.drew:=h
theorem X1N{B:Nat}{v:Value}{l:List Int}{w:World}(h:Own B v l w)(o:Obj):Own B v l (w.alloc o):=World.ownsRow.alloc h o
theorem X44{B:Nat}{v:Value}{l:List Int}{w:World}(h:Own B v l w):
 (v= .slice none 0 0∧l= [])∨∃g cap,v= .slice (some ⟨g,0,none⟩) l.length cap∧B≤g∧g<w.heap.size∧∀j u,(l.map (Value.int .i64))[j]? =some u→w.cell? ((⟨g,0,none⟩:Addr).add j)=some u:=by
 have hc:=fun g hg=>World.ownsRow.cells (g:=g) h hg;have a:=World.ownsRow.lt h;rcases h.2 with⟨rfl,hl⟩ | ⟨g,cap,b,rfl,hB,_⟩
 ·exact .inl ⟨rfl,List.eq_nil_of_length_eq_zero hl⟩
 ·exact .inr ⟨g,cap,rfl,hB,(a g rfl).2,hc g rfl⟩
theorem X28{B:Nat}{v:Value}{l:List Int}{w:World}(h:Own B v l w)(a:Addr)(u:Value)(hne:v.ownBlock=none∨v.ownBlock≠some a.block):Own B v l (w.setCell a u):=by
 refine World.ownsRow.kept (row:=some a.block) h ⟨rfl,rfl,rfl,by simp [World.setCell],fun k _ hk=>?_⟩ hne;exact Below.heap_setCell _ _ _ _ (fun e=>hk (by rw[e]))
theorem X8p{j k n c:Nat}(h:j≠k):some j≠(Value.slice (some ⟨k,0,none⟩) n c).ownBlock:=by
 intro e;exact h (Option.some.inj e)
theorem X2y{B B':Nat}{v:Value}{l:List Int}{w:World}(h:Own B' v l w)(hB:B≤B'):Own B v l w:=by
 refine⟨h.1,?_⟩;rcases h.2 with hn | ⟨g,cap,a,hv,hg,r⟩
 ·exact .inl hn
 ·exact .inr ⟨g,cap,a,hv,Nat.le_trans hB hg,r⟩
theorem X3y{B k:Nat}{v:Value}{l:List Int}{w:World}(h:Own B v l w)(hk:k<B):v.ownBlock=none∨v.ownBlock≠some k:=by
 refine .inr fun e=>?_;have:=(World.ownsRow.lt h k e).1;omega
theorem X17{B n:Nat}{v:Value}{l:List Int}{xs:List Value}{w:World}(h:w.ownsRow B 3 1 v n xs)(hn:n=l.length)(hx:xs=l.map (Value.int .i64)):Own B v l w:=by
 subst hn;subst hx;exact h
theorem X12(l:List Int): ∀u∈l.map (Value.int .i64),u.oneCell'=true:=by
 intro u hu;obtain⟨x,_,rfl⟩:=List.mem_map.1 hu;rfl
theorem X99(s:ByteArray)(c:UInt8)(w:World)(hT:Lib.Utf8Tabs 0 1 w)(hm:s.size≤3)(hs:Dec.saneB s=true)(hg:Dec.begB (s++⟨#[c]⟩)=false)(hd:(Lib.decodeGo (s++⟨#[c]⟩)).2=(s++⟨#[c]⟩).size):
 Calls Tryz.prog 109 #[.agg #[.string s], .int .u8 c.toNat] w fun e w'=>∃v,e= .returned (.tuple #[.agg #[.string ⟨#[]⟩],v])∧Own w.heap.size v [((Lib.decodeGo (s++⟨#[c]⟩)).1:Int)] w'∧Below w.heap.size w w':=by
 have H:=hid hs;have l:=X2l c;obtain⟨b,hb⟩: ∃b,s++(⟨#[c]⟩:ByteArray)=b:=⟨_,rfl⟩;rw[hb] at hg hd ⊢;have G:=hid hg;have e1:=X4u hd;have hr:=Dec.XvM b;have m:b.size≤4:=by rw[←hb,ByteArray.size_append];show s.size+1≤4;omega
 clear hs hg hd;obtain⟨r,h⟩: ∃r,(Lib.decodeGo b).1=r:=⟨_,rfl⟩;obtain⟨n,g⟩: ∃n,(Lib.decodeGo b).2=n:=⟨_,rfl⟩;rw[h] at hr ⊢;rw[g] at e1;go_enter Tryz.func109,Tryz.ntmps109;go_wp2_with fail;refine(X1s s _ (X0E (X0E hT _) _)).mono ?_;rintro e w1 ⟨rfl,a⟩;obtain⟨z0,q0,r0⟩:=X0n (X0F (X0R w (.string s) 40) _) a;have i:=X0n (X0R (w.alloc (Obj.cells #[Value.string s] 40)) (.string { data:= #[] }) 40) a;simp only[World.size_alloc] at i;have X1:=hid i;clear i;rw[H.out];go_wp2_with fail;refine(X1C b _ (X2M hT a)).mono ?_;rintro e w2 ⟨rfl,d⟩;have X2:=hid (X0n (X0F X1.out _) d);have j:=X1j (X2x a) d
 rw[G.out];clear z0 q0 r0;go_wp2_with fail;refine(Tryz.utf8_DecodeRuneInString b _ (Utf8Tabs_below (X2M hT a) d)).mono ?_;rintro e w3 ⟨rfl,k⟩;obtain⟨z1,q1,r1⟩:=X0n X2.out k;have f:=j.trans (k.mono j.size);rw[h,g];clear hT h g hb;go_wp2_with fail;refine bodyPost_ret (v:= .tuple #[.agg #[.string ⟨#[]⟩],_]) (by simp [results,Tryz.results109,go_sem,q1,z1];rfl) rfl ⟨_,rfl,?_,?_⟩
 ·exact X1W _ _ _ _ (by simp) (by have:=f.size;simp;omega)
 ·exact(f.setCell (by simp) _).alloc (by have:=f.size;simp;omega) _
theorem Xga(s:ByteArray)(c:UInt8)(w:World)(hT:Lib.Utf8Tabs 0 1 w)(hm:s.size≤3)(hs:Dec.saneB s=true)(hg:Dec.begB (s++⟨#[c]⟩)=false)(hd: ¬(Lib.decodeGo (s++⟨#[c]⟩)).2=(s++⟨#[c]⟩).size)
 (t:ByteArray) (l:List Int) (hl:l.length≤1) (h0: ∀w,Lib.Utf8Tabs 0 1 w→Calls Tryz.prog 109 #[.agg #[.string ⟨#[]⟩], .int .u8 c.toNat] w fun e w'=>∃v,e= .returned (.tuple #[.agg #[.string t],v])∧Own w.heap.size v l w'∧Below w.heap.size w w'):
 Calls Tryz.prog 109 #[.agg #[.string s], .int .u8 c.toNat] w fun e w'=>∃v,e= .returned (.tuple #[.agg #[.string t],v])∧Own w.heap.size v (65533::l) w'∧Below w.heap.size w w':=by
 have H:=hid hs;have K:=X2l c;obtain⟨b,hb⟩: ∃b,s++(⟨#[c]⟩:ByteArray)=b:=⟨_,rfl⟩;rw[hb] at hg hd;have G:=hid hg;have e1:=X5i hd;have hr:=Dec.XvM b;have R:b.size≤4:=by rw[←hb,ByteArray.size_append];show s.size+1≤4;omega
 have K0:=hid h0;clear hs hg hd h0;obtain⟨r,D⟩: ∃r,(Lib.decodeGo b).1=r:=⟨_,rfl⟩;obtain⟨n,C⟩: ∃n,(Lib.decodeGo b).2=n:=⟨_,rfl⟩;rw[D] at hr;rw[C] at e1;go_enter Tryz.func109,Tryz.ntmps109;go_wp2_with fail;refine(X1s s _ (X0E (X0E hT _) _)).mono ?_;rintro e w1 ⟨rfl,f⟩;obtain⟨z0,q0,r0⟩:=X0n (X0F (X0R w (.string s) 40) _) f;have E:=X0n (X0R (w.alloc (Obj.cells #[Value.string s] 40)) (.string { data:= #[] }) 40) f;simp only[World.size_alloc] at E;have X1:=hid E;clear E;rw[H.out];go_wp2_with fail;refine(X1C b _ (X2M hT f)).mono ?_;rintro e w2 ⟨rfl,m⟩;have X2:=hid (X0n (X0F X1.out _) m)
 have B:=X1j (X2x f) m;rw[G.out];clear z0 q0 r0;go_wp2_with fail;refine(Tryz.utf8_DecodeRuneInString b _ (Utf8Tabs_below (X2M hT f) m)).mono ?_;rintro e w3 ⟨rfl,y⟩;have X3:=hid (X0n X2.out y);have z:=B.trans (y.mono B.size);have F:=hid (Utf8Tabs_below (Utf8Tabs_below (X2M hT f) m) y);rw[D,C];clear hT D C hb f m B y X1 X2 K;go_wp2_with fail;refine(K0.out _ F.out).mono ?_;rintro e w4 ⟨v,rfl,hv,p⟩;have q:=z.trans (p.mono z.size);have X4:=hid (X0F (X0F (X0n X3.out p) (Obj.cells #[Value.string t] 40)) (Obj.cells #[Value.int IntKind.i64 65533] 3))
 have XT:=hid (X0F (X0R w4 (Value.string t) 40) (Obj.cells #[Value.int IntKind.i64 65533] 3));have S:w.heap.size+2≤w4.heap.size:=by have:=X3.out.1;have:=p.size;omega
 have k:=hid (X1W (w.heap.size+2) 65533 (w4.alloc (Obj.cells #[Value.string t] 40)) (w4.heap.size+1) (by simp) (by simp;omega));have hB:=hid ((q.alloc q.size (Obj.cells #[Value.string t] 40)).alloc (by have:=q.size;simp;omega) (Obj.cells #[Value.int IntKind.i64 65533] 3));obtain⟨i0,hi,M,N,O⟩:=info_parts X2H;have L:w.heap.size+1≠w4.heap.size+1:=by omega
 rcases X44 hv with⟨rfl,rfl⟩ | ⟨g,cap,rfl,hg,P,A⟩
 ·obtain⟨z4,q4,r4⟩:=X4.out;clear hv z p q;go_wp2_with fail
  go_region_law (refine X8o rfl (.tmp 45) (.tmp 46) 24 rfl (w.heap.size+2) 3 i0 1 Tryz.underlying24 hi _ 1 _ rfl (X5r k.out) rfl ?_)
  all_goals go_wp2_with fail
  all_goals refine bodyPost_ret (v:= .tuple #[.agg #[.string t],_]) (by simp [results,Tryz.results109,go_sem,q4];rfl) rfl ⟨_,rfl,?_,?_⟩
  all_goals first | exact(hB.out.setCell (by simp) _).drew | exact X5r (X2y (X28 k.out _ _ (X3y k.out (by simp))) (by omega))
 ·have i: ∀j u,(l.map (Value.int .i64))[j]? =some u→((w4.alloc (Obj.cells #[Value.string t] 40)).alloc (Obj.cells #[Value.int IntKind.i64 65533] 3)).drew.cell? ((⟨g,0,none⟩:Addr).add j)=some u:=by
   intro j u hu;have h:=A j u hu;have h1:=World.cell?_alloc_lt (w:=w4) (o:=Obj.cells #[Value.string t] 40) (a:=(⟨g,0,none⟩:Addr).add j) (World.block_lt_of_cell? _ _ h);have h2:=World.cell?_alloc_lt (w:=w4.alloc (Obj.cells #[Value.string t] 40)) (o:=Obj.cells #[Value.int IntKind.i64 65533] 3) (a:=(⟨g,0,none⟩:Addr).add j) (World.block_lt_of_cell? _ _ (h1.trans h));exact h2.trans (h1.trans h)
  have i:=hid i;clear hv z p q A hg;go_wp2_with fail
  go_region_law (refine Xds rfl (.tmp 45) (.tmp 46) 24 rfl (w.heap.size+2) 3 i0 (.int .i64 0) 1 8 Tryz.underlying24 hi M N O rfl (by decide) _ 1 _ rfl (X5r k.out) ⟨g,0,none⟩ l.length cap (l.map (Value.int .i64)) rfl (by simp) i.out (X12 l) (by unfold maxLen;omega) (by omega) (by simp;omega) ?_;intro v5 w5 x d;obtain⟨z5,q5,r5⟩:=X5T X4.out d (X8p L);obtain⟨z6,q6,r6⟩:=X5T XT.out d (X8p (by omega));have I:=X6g hB.out d hB.out.size (by omega))
  all_goals go_wp2_with fail
  all_goals refine bodyPost_ret (v:= .tuple #[.agg #[.string t],_]) (by simp [results,Tryz.results109,go_sem,q5];rfl) rfl ⟨_,rfl,?_,?_⟩
  all_goals first | exact I.setCell (by simp) _ | exact X2y (X28 (X17 x (by simp;omega) (by simp)) _ _ (X3y (l:=65533::l) (X17 x (by simp;omega) (by simp)) (by simp))) (by omega)
theorem X3g(c:UInt8)(W:World)(a:Addr)(u:Value):(convert 140 9 (.slice (some ⟨W.heap.size,0,none⟩) 1 1)).run Tryz.prog ((W.setCell a u).alloc (.cells #[.int .u8 c.toNat] 5))= .ok (.string ⟨#[c]⟩) ((W.setCell a u).alloc (.cells #[.int .u8 c.toNat] 5)):=by
 have h:=X2l c (W.setCell a u);rw[show (W.setCell a u).heap.size=W.heap.size from by simp] at h;exact h
theorem X45{w:World}{k:Nat}{v:Value}(h:Box w k v)(a:Addr)(u:Value)(hne:a.block≠k):Box (w.setCell a u) k v:=by
 obtain⟨h0,h1,h2⟩:=h;refine⟨by simpa using h0,?_,by rw[World.frozen?_setCell];exact h2⟩;rw[World.cell?_setCell_other]
 ·exact h1
 ·intro e;exact hne (by rw[e])
theorem X6Z(s:ByteArray)(c:UInt8)(w:World)(hT:Lib.Utf8Tabs 0 1 w)(hs:Dec.saneB s=false)(hg:Dec.begB (⟨#[]⟩++⟨#[c]⟩)=true):
 Calls Tryz.prog 109 #[.agg #[.string s], .int .u8 c.toNat] w fun e w'=>e= .returned (.tuple #[.agg #[.string (⟨#[]⟩++⟨#[c]⟩)], .slice none 0 0])∧Below w.heap.size w w':=by
 have H:=hid hs;have l:=X3g c;have h:((⟨#[]⟩:ByteArray)++⟨#[c]⟩).size=1:=Dec.Xh0 c;obtain⟨b,hb⟩: ∃b,(⟨#[]⟩:ByteArray)++(⟨#[c]⟩:ByteArray)=b:=⟨_,rfl⟩;rw[hb] at hg h ⊢;have G:=hid hg;clear hs hg;have k:b.size≤4:=by omega
 clear h;go_enter Tryz.func109,Tryz.ntmps109;go_wp2_with fail;refine(X1s s _ (X0E (X0E hT _) _)).mono ?_;rintro e w1 ⟨rfl,a⟩;obtain⟨z0,q0,r0⟩:=X0n (X0F (X0R w (.string s) 40) _) a;have d:=X0n (X0R (w.alloc (Obj.cells #[Value.string s] 40)) (.string { data:= #[] }) 40) a;simp only[World.size_alloc] at d;have X1:=hid (X0F (X45 d ⟨w.heap.size,0,none⟩ (.string { data:= #[] }) (by simp)) (.cells #[.int .u8 c.toNat] 5));have f:=(X2x a).setCell (p:=⟨w.heap.size,0,none⟩) (Nat.le_refl _) (.string { data:= #[] });clear d;rw[H.out];go_wp2_with fail;refine(X1C b _ (X0E (Utf8Tabs_below hT f) _)).mono ?_
 rintro e w2 ⟨rfl,g⟩;have i:=X1j f g;have j:=X0n X1.out g;rw[G.out];obtain⟨z1,q1,r1⟩:=j;clear hT;go_wp2_with fail;refine bodyPost_ret (v:= .tuple #[.agg #[.string b], .slice none 0 0]) (by simp [results,Tryz.results109,go_sem,q1]) rfl ⟨rfl,?_⟩;exact i.setCell (by simp) _
theorem X70(s:ByteArray)(c:UInt8)(w:World)(hT:Lib.Utf8Tabs 0 1 w)(hs:Dec.saneB s=false)(hg:Dec.begB (⟨#[]⟩++⟨#[c]⟩)=false):
 Calls Tryz.prog 109 #[.agg #[.string s], .int .u8 c.toNat] w fun e w'=>∃v,e= .returned (.tuple #[.agg #[.string ⟨#[]⟩],v])∧Own w.heap.size v [((Lib.decodeGo (⟨#[]⟩++⟨#[c]⟩)).1:Int)] w'∧Below w.heap.size w w':=by
 have hd:=Dec.Xjc c;have H:=hid hs;have t:=X3g c;have i:((⟨#[]⟩:ByteArray)++⟨#[c]⟩).size=1:=Dec.Xh0 c;obtain⟨b,hb⟩: ∃b,(⟨#[]⟩:ByteArray)++(⟨#[c]⟩:ByteArray)=b:=⟨_,rfl⟩;rw[hb] at hg i hd ⊢;have G:=hid hg;have e1:=X4u (hd.trans i.symm);have hr:=Dec.XvM b;clear hs hg hd;obtain⟨r,h⟩: ∃r,(Lib.decodeGo b).1=r:=⟨_,rfl⟩;obtain⟨n,g⟩: ∃n,(Lib.decodeGo b).2=n:=⟨_,rfl⟩;rw[h] at hr ⊢;rw[g] at e1;have q:b.size≤4:=by omega
 clear i;go_enter Tryz.func109,Tryz.ntmps109;go_wp2_with fail;refine(X1s s _ (X0E (X0E hT _) _)).mono ?_;rintro e w1 ⟨rfl,a⟩;obtain⟨z0,q0,r0⟩:=X0n (X0F (X0R w (.string s) 40) _) a;have j:=X0n (X0R (w.alloc (Obj.cells #[Value.string s] 40)) (.string { data:= #[] }) 40) a;simp only[World.size_alloc] at j;have X1:=hid (X0F (X45 j ⟨w.heap.size,0,none⟩ (.string { data:= #[] }) (by simp)) (.cells #[.int .u8 c.toNat] 5));have k:=(X2x a).setCell (p:=⟨w.heap.size,0,none⟩) (Nat.le_refl _) (.string { data:= #[] });clear j;rw[H.out];go_wp2_with fail;refine(X1C b _ (X0E (Utf8Tabs_below hT k) _)).mono ?_
 rintro e w2 ⟨rfl,l⟩;have d:=X1j k l;have o:=X0n X1.out l;rw[G.out];have X2:=hid o;clear o z0 q0 r0;go_wp2_with fail;refine(Tryz.utf8_DecodeRuneInString b _ (Utf8Tabs_below hT d)).mono ?_;rintro e w3 ⟨rfl,m⟩;obtain⟨z1,q1,r1⟩:=X0n X2.out m;have f:=d.trans (m.mono d.size);rw[h,g];clear hT h g hb;go_wp2_with fail;refine bodyPost_ret (v:= .tuple #[.agg #[.string ⟨#[]⟩],_]) (by simp [results,Tryz.results109,go_sem,q1,z1];rfl) rfl ⟨_,rfl,?_,?_⟩
 ·exact X1W _ _ _ _ (by simp) (by have:=f.size;simp;omega)
 ·exact(f.setCell (by simp) _).alloc (by have:=f.size;simp;omega) _
theorem X71(n b0 b1 b2:Nat)(h:4≤n):Dec.fullN n b0 b1 b2=true:=by
 have h1:Lib.firstT b0 % 8≤n:=by
  rcases Lib.firstT_cases b0 with hX | hX | hX | hX | hX | hX | hX | hX | hX <;> rw[hX] <;> omega
 have h2:n≠0:=by omega
 simp [Dec.fullN,h1,h2]
theorem X72{s:ByteArray}(h:Dec.begB s=true):s.size≤3:=by
 rcases Nat.lt_or_ge 3 s.size with h3 | h3
 ·have hf:Dec.fullB s=true:=X71 _ _ _ _ h3;simp [Dec.begB,hf] at h
 ·exact h3
theorem X5U{s:ByteArray}(h:Dec.saneB s=true):s.size≤3:=by
 unfold Dec.saneB at h;rcases Bool.or_eq_true _ _ ▸ h with h | h
 ·have:=of_decide_eq_true h;omega
 ·exact X72 h
theorem X7H(s:ByteArray)(c:UInt8)(w:World)(hT:Lib.Utf8Tabs 0 1 w):
 Calls Tryz.prog 109 #[.agg #[.string s], .int .u8 c.toNat] w fun e w'=>∃v,e= .returned (.tuple #[.agg #[.string (Dec.feed s c).1],v])∧Own w.heap.size v (Dec.feed s c).2 w'∧Below w.heap.size w w':=by
 have h0: ∀w,Lib.Utf8Tabs 0 1 w→Calls Tryz.prog 109 #[.agg #[.string ⟨#[]⟩], .int .u8 c.toNat] w fun e w'=>∃v,e= .returned (.tuple #[.agg #[.string (Dec.feed1 ⟨#[]⟩ c).1],v])∧Own w.heap.size v (Dec.feed1 ⟨#[]⟩ c).2 w'∧Below w.heap.size w w':=by
  intro w hT;rw[Dec.XBk];cases hg:Dec.begB (⟨#[]⟩++⟨#[c]⟩) with
  |
   true=>
   rw[if_pos rfl];exact(X98 ⟨#[]⟩ c w hT (by decide) Dec.XBl hg).mono fun e w' ⟨h1,h2⟩=>⟨_,h1,X27 _ _,h2⟩
  |
   false=>
   rw[if_neg (by simp)];exact X99 ⟨#[]⟩ c w hT (by decide) Dec.XBl hg (by rw[Dec.Xjc,Dec.Xh0])
 unfold Dec.feed;cases hs:Dec.saneB s with
 |
  true=>
  rw[if_pos rfl];have hm:=X5U hs;unfold Dec.feed1;cases hg:Dec.begB (s++⟨#[c]⟩) with
  |
   true=>
   rw[if_pos rfl];exact(X98 s c w hT hm hs hg).mono fun e w' ⟨h1,h2⟩=>⟨_,h1,X27 _ _,h2⟩
  |
   false=>
   rw[if_neg (by simp)];by_cases hd:(Lib.decodeGo (s++⟨#[c]⟩)).2=(s++⟨#[c]⟩).size
   ·rw[if_pos hd];exact X99 s c w hT hm hs hg hd
   ·rw[if_neg hd];have h1:=fun(hl:(Dec.feed1 ⟨#[]⟩ c).2.length≤1)=>Xga s c w hT hm hs hg hd _ _ hl h0;rw[Dec.XBk] at h1;cases a:Dec.begB (⟨#[]⟩++⟨#[c]⟩) with
    |
     true=>
     rw[if_pos rfl];rw[a,if_pos rfl] at h1;exact h1 (by simp)
    |
     false=>
     rw[if_neg (by simp)];rw[a,if_neg (by simp)] at h1;exact h1 (by simp)
 |
  false=>
  rw[if_neg (by simp),Dec.XBk];cases hg:Dec.begB (⟨#[]⟩++⟨#[c]⟩) with
  |
   true=>
   rw[if_pos rfl];exact(X6Z s c w hT hs hg).mono fun e w' ⟨h1,h2⟩=>⟨_,h1,X27 _ _,h2⟩
  |
   false=>
   rw[if_neg (by simp)];exact X70 s c w hT hs hg
theorem X3O{w:World}{k:Nat}{v u:Value}(h:Box w k v):Box (w.setCell ⟨k,0,none⟩ u) k u:=
 ⟨by simpa using h.1,World.cell?_setCell_same _ _ _ h.2.1,by rw[World.frozen?_setCell];exact h.2.2⟩
end Go.Proofs.YtkofnpkopbnocaaGreatDoor.Tx
