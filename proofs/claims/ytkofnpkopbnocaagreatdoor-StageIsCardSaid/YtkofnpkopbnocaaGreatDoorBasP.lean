import Derived.Test.YtkofnpkopbnocaaGreatDoorRows
import Derived.WalkKit
import Derived.WalkSpells
import Derived.WalkLawsBesides
import Derived.Deep.QuietTactic
import Derived.BigQuiet
import Derived.Lib.Hide
import Derived.Laws.AppendOwnNone
import Derived.Laws.BitsLemmas
import Derived.Tactics
import Derived.KernelRfl
import Derived.LoopTactic
set_option linter.unusedSimpArgs false
set_option linter.unusedVariables false
set_option maxHeartbeats 800000
namespace Go.Proofs.YtkofnpkopbnocaaGreatDoor
open Go.RowKit Go.Lib
theorem X0p{a b:Bool}(h:a=b):Ending.returned (.bool a)= .returned (.bool b):=by rw[h]
theorem X04(w:World)(o:Obj):Below w.heap.size w (w.alloc o):=(Below.refl _ _).alloc (Nat.le_refl _) _
theorem X1v{w w1:World}{o:Obj}(hb1:Below (w.alloc o).heap.size (w.alloc o) w1):Below w.heap.size w w1:=(X04 w o).trans (hb1.mono (by simp))
theorem X0U(w:World)(n:Nat):Below w.heap.size w (w.drewN n):=⟨rfl,rfl,rfl,Nat.le_refl _,fun _ _=>rfl⟩
theorem X4u{a b:Nat}(h:a=b):((a:Int) == (b:Int))=true:=by subst h;exact beq_self_eq_true _
theorem X5i{a b:Nat}(h: ¬a=b):((a:Int) == (b:Int))=false:=beq_eq_false_iff_ne.2 (by omega)
theorem Xpb{P:Program}{f:FuncId}{args:Array Value}{w:World}{n:Nat}{v:Value}
 (h:Calls P f args (w.drewN n) fun e w'=>e= .returned v∧w.drewN n=w'):Calls P f args (w.drewN n) fun e a=>e= .returned v∧∃m,a=w.drewN m:=
 Calls.quiet_of_same (h.mono fun _ _ h=>⟨h.1,h.2.symm⟩)
theorem XBg{w:World}{a:Addr}{v:Option Value}(n:Nat)(h:w.cell? a=v):(w.drewN n).cell? a=v:=h
def Blk(w:World)(k:Nat)(cs:Array Value)(T:TypeId):Prop:=w.heap[k]? =some (.cells cs T)
theorem X1h{w:World}{k:Nat}{cs:Array Value}{T:TypeId}(h:Blk w k cs T):k<w.heap.size:=(Array.getElem?_eq_some_iff.1 h).1
theorem X0g(w:World)(cs:Array Value)(T:TypeId):Blk (w.alloc (.cells cs T)) w.heap.size cs T:=heap_alloc_new w _
theorem X02{w w1:World}{k:Nat}{cs:Array Value}{T:TypeId}(h:Blk w k cs T)(hb:Below w.heap.size w w1):Blk w1 k cs T:=by
 unfold Blk at *
 rw[hb.block k (X1h h)];exact h
theorem X0l{w:World}{k:Nat}{cs:Array Value}{T:TypeId}(h:Blk w k cs T)(o:Obj):Blk (w.alloc o) k cs T:=X02 h (X04 w o)
theorem X9L{w:World}{k:Nat}{cs:Array Value}{T:TypeId}(h:Blk w k cs T)(n:Nat):Blk (w.drewN n) k cs T:=h
theorem X00{w:World}{k:Nat}{cs:Array Value}{T:TypeId}(h:Blk w k cs T)(i:Nat)(v:Value)(hv:cs[i]? =some v):w.cell? ⟨k,i,none⟩=some v:=by
 unfold Blk at h;simp [World.cell?,h,hv]
theorem X06{w:World}{k:Nat}{cs:Array Value}{T:TypeId}(h:Blk w k cs T)(i:Nat):w.frozen? ⟨k,i,none⟩=false:=by
 unfold Blk at h;simp [World.frozen?,h]
open Go Go.RowKit
def Src(w:World)(x:Value)(news:List Value):Prop:=
 (x= .slice none 0 0∧news= [])∨∃ad c,x= .slice (some ad) news.length c∧∀j u,news[j]? =some u→w.cell? (ad.add j)=some u
theorem X0c{P:Program}{w:World}{ops:Array Oper}{rest:List Oper}{o:Oper}{a:Act}{Q:Exit→Act→World→Prop}(hgd:o.guard=none)(s x:Operand)(t:TypeId)
 (ho:o.op= .call { callee:= .builtin .append,args:= #[s,x],argTypes:= #[t,t] })
 (base:Nat) (e:TypeId) (i:TypeInfo) (z:Value) (bytes:Nat) (ht:P.underlying t=some (.slice e)) (hi:P.info? e=some i) (hz:i.zero=some z)
 (hsize:i.size=1) (hby:i.bytes=bytes) (hzs:z.cells.size=1)
 (v:Value) (n:Nat) (xs:List Value) (hs:a.eval s=v) (hown:w.ownsRow base e 1 v n xs)
 (xv:Value) (news:List Value) (hx:a.eval x=xv) (b:Src w xv news) (h1: ∀u∈news,u.oneCell'=true)
 (h63:n+news.length≤maxLen) (hbytes:(n+news.length) *bytes≤140737488355328) (hbase:base≤w.heap.size)
 (h: ∀v' w',w'.ownsRow base e 1 v' (n+news.length) (xs++news)→w.grownBy w' v.ownBlock→wpList P ops Q rest (a.put o.dst v') w'):wpList P ops Q (o::rest) a w:=by
 rcases b with⟨rfl,rfl⟩ | ⟨ad,c,rfl,hc⟩
 ·refine wpList_append_own_none hgd s x t ho base e i 1 ht hi v n xs hs hown hx ?_;exact h v w (by simpa using hown) ⟨rfl,rfl,rfl,Nat.le_refl _,fun _ _ _=>rfl⟩
 ·exact wpList_append_own w hgd s x t ho base e i z 1 bytes ht hi hz hsize hby hzs (by decide) v n xs hs hown ad news.length c news hx (by simp) hc h1 h63 hbytes hbase fun v' w' g1 g2 _=>h v' w' g1 g2
theorem X0k{B B':Nat}{w0 w w1:World}{v:Value}{e:TypeId}{size n:Nat}{xs:List Value}(h:Below B w0 w)(hg:w.grownBy w1 v.ownBlock)(hB:B≤w.heap.size)(ho:w.ownsRow B' e size v n xs)(hBB:B≤B'):Below B w0 w1:=
 h.grown hg hB (fun k hk=>Nat.le_trans hBB (World.ownsRow.lt ho k hk).1)
open Go
theorem X3r(n:Int)(h0:0≤n)(h1:n<2 ^ 63):IntKind.i64.wrap n=n:=by rw[IntKind.wrap_i64];omega
theorem Xb1(x:Int)(i:Nat)(hi:i≤62):bits .and .i64 x (2 ^ i - 1)=x % 2 ^ i:=by
 have a:0<2 ^ i:=Nat.two_pow_pos i;have hm:2 ^ i - 1<2 ^ 64:=Nat.lt_of_lt_of_le (Nat.sub_lt a (by decide)) (Nat.pow_le_pow_right (by decide) (by omega));have hc:((2:Int) ^ i - 1)=((2 ^ i - 1:Nat):Int):=by
  rw[Int.natCast_sub a];simp
 have hd:((2:Int) ^ i) ∣ (2:Int) ^ 64:=⟨2 ^ (64 - i),by rw[←Int.pow_add];congr 1;omega⟩;rw[hc];have hb:IntKind.i64.bits=64:=rfl;simp only[bits,hb,BitVec.ofInt_natCast,BitVec.toNat_and,BitVec.toNat_ofNat,BitVec.toNat_ofInt];rw[Nat.mod_eq_of_lt hm,Nat.and_two_pow_sub_one_eq_mod];have e:(((x % ((2 ^ 64:Nat):Int)).toNat % 2 ^ i:Nat):Int)=x % 2 ^ i:=by
  rw[Int.natCast_emod,Int.toNat_of_nonneg (Int.emod_nonneg _ (by decide))];simp only[Int.natCast_pow,Int.cast_ofNat_Int];exact Int.emod_emod_of_dvd _ hd
 rw[e];have h1:x % (2:Int) ^ i<2 ^ i:=Int.emod_lt_of_pos _ (Int.pow_pos (by decide));have h2:(2:Int) ^ i≤2 ^ 62:=by
  have:=Nat.pow_le_pow_right (n:=2) (by decide) hi
  exact_mod_cast this
 exact X3r _ (Int.emod_nonneg _ (Int.ne_of_gt (Int.pow_pos (by decide)))) (by omega)
def Xj4(P:Program)(ops:Array Oper):Nat→List Oper→Act→World→Option (Act × World)
 | 0,_,a,w=>some (a,w)
 |
  n+1,o::rest,a,w=>
  if Region.wanted o (yielded ops a.tmps) then
   match (execOp a.eval o).run P w with
   | .ok (.value v) w'=>Xj4 P ops n rest (a.put o.dst v) w'
   | _=>none
  else none
 | _+1,[],_,_=>none
theorem X3v{P:Program}{ops:Array Oper}{Q:Exit→Act→World→Prop}(n:Nat): ∀ {l:List Oper} {a a':Act} {w w':World},
 Xj4 P ops n l a w=some (a',w')→wpList P ops Q (l.drop n) a' w'→wpList P ops Q l a w:=by
 induction n with
 |
  zero=>
  intro l a a' w w' h k;simp only[Xj4,Option.some.injEq,Prod.mk.injEq] at h;obtain⟨rfl,rfl⟩:=h;exact k
 |
  succ n ih=>
  intro l a a' w w' h k
  match l with
  | []=>simp [Xj4] at h
  |
   o::rest=>
   unfold Xj4 at h;unfold wpList
   split at h
   ·rename_i hw;rw[if_pos hw];left
    split at h
    ·rename_i v w1 hr;unfold Oper.wp;rw[hr];exact ih h k
    ·cases h
   ·cases h
abbrev X3d(l:List Int):List Value:=l.map (Value.int .i64)
def RI(w:World)(v:Value)(l:List Int):Prop:=
 (v= .slice none 0 0∧l= [])∨∃a cap,v= .slice (some a) l.length cap∧l.length≤cap∧(0<l.length→∃b off,a=⟨b,off,none⟩∧b<w.heap.size∧∀i (h:i<l.length),w.cell? ⟨b,off+i,none⟩=some (.int .i64 l[i]))
theorem X9J(w:World):RI w (.slice none 0 0) []:= .inl ⟨rfl,rfl⟩
theorem ri_at{w:World}{p:Option Addr}{n cap:Nat}{l:List Int}(h:RI w (.slice p n cap) l)(hl:0<l.length): ∃b off,p=some ⟨b,off,none⟩∧b<w.heap.size∧∀i (h:i<l.length),w.cell? ⟨b,off+i,none⟩=some (.int .i64 l[i]):=by
 rcases h with⟨_,rfl⟩ | ⟨a,cap',he,_,h⟩
 ·simp at hl
 ·simp at he;obtain⟨rfl,_,_⟩:=he;obtain⟨b,off,rfl,h1,h2⟩:=h hl;exact⟨b,off,rfl,h1,h2⟩
theorem X0b{w:World}{v:Value}{l:List Int}(h:RI w v l): ∃p cap,v= .slice p l.length cap:=by
 rcases h with⟨rfl,rfl⟩ | ⟨a,cap,rfl,_⟩
 ·exact⟨none,0,rfl⟩
 ·exact⟨_,_,rfl⟩
theorem X03{w w1:World}{v:Value}{l:List Int}(h:RI w v l)(hb:Below w.heap.size w w1):RI w1 v l:=by
 rcases h with h | ⟨a,c,rfl,d,h⟩
 ·exact .inl h
 ·refine .inr ⟨a,c,rfl,d,fun hl=>?_⟩;obtain⟨b,o,rfl,h1,h2⟩:=h hl;exact⟨b,o,rfl,Nat.lt_of_lt_of_le h1 hb.size,fun i hi=>by rw[hb.cell h1];exact h2 i hi⟩
theorem X6z{w:World}{v:Value}{a b:List Int}(h:RI w v a)(e:a=b):RI w v b:=e ▸ h
theorem X0Y{w:World}{v:Value}{l:List Int}(h:RI w v l):Src w v (X3d l):=by
 rcases h with⟨rfl,rfl⟩ | ⟨a,cap,rfl,_,h⟩
 ·exact .inl ⟨rfl,rfl⟩
 ·refine .inr ⟨a,cap,by rw[List.length_map],fun j u hu=>?_⟩;have hj:j<l.length:=by
   rcases Nat.lt_or_ge j l.length with hj | hj
   ·exact hj
   ·rw[List.getElem?_eq_none (by simpa using hj)] at hu;cases hu
  obtain⟨b,off,rfl,_,hc⟩:=h (by omega);have c:(⟨b,off,none⟩:Addr).add j=⟨b,off+j,none⟩:=by unfold Addr.add;split <;> simp_all
  rw[c,hc j hj];simpa [hj] using hu
theorem X2p:(Tryz.prog.info? 3).map (fun i=>(i.zero,i.size,i.bytes))=some (some (.int .i64 0),1,8):=by kernel_rfl
theorem X0u(l:List Int): ∀u∈X3d l,u.oneCell'=true:=by
 intro u hu;obtain⟨x,_,rfl⟩:=List.mem_map.1 hu;rfl
def OwnI(B:Nat)(v:Value)(l:List Int)(w:World):Prop:=w.ownsRow B 3 1 v l.length (X3d l)
theorem X0O(B:Nat)(w:World):OwnI B (.slice none 0 0) [] w:=World.ownsRow_nil w B 3 1
theorem X0H(B:Nat)(w:World)(l:List Int)(cs:Array Value)(k n:Nat)(hk:w.heap.size=k)(hB:B≤k)(hcs:cs.toList=X3d l)(hn:n=l.length)(hm:n≤maxLen):
 OwnI B (.slice (some ⟨k,0,none⟩) n n) l (w.alloc (.cells cs 3)):=by
 subst hk;subst hn;have hs:cs.size=l.length:=by rw[←Array.length_toList,hcs,List.length_map]
 refine⟨by simp, .inr ⟨w.heap.size,l.length,cs,rfl,hB,heap_alloc_new w _,Nat.le_refl _,hm,by rw[hs,Nat.mul_one],?_⟩⟩;rw[hcs,Nat.mul_one];exact List.take_of_length_le (by simp)
theorem X0i{B n:Nat}{v:Value}{l:List Int}{xs:List Value}{w:World}(h:w.ownsRow B 3 1 v n xs)(hn:n=l.length)(hx:xs=X3d l):OwnI B v l w:=by
 subst hn;subst hx;exact h
theorem Xdq{B:Nat}{v:Value}{a b:List Int}{w:World}(h:OwnI B v a w)(e:a=b):OwnI B v b w:=e ▸ h
theorem X0x{B:Nat}{v:Value}{l:List Int}{w w1:World}(h:OwnI B v l w)(hb:Below w.heap.size w w1):OwnI B v l w1:=by
 refine⟨h.1,?_⟩;rcases h.2 with hn | ⟨g,cap,a,hv,hg,hh,r⟩
 ·exact .inl hn
 ·exact .inr ⟨g,cap,a,hv,hg,by rw[hb.block g (Array.getElem?_eq_some_iff.1 hh).1];exact hh,r⟩
theorem X0B{B:Nat}{v:Value}{l:List Int}{w:World}(h:OwnI B v l w)(o:Obj):OwnI B v l (w.alloc o):=World.ownsRow.alloc h o
theorem Xfv{B:Nat}{v:Value}{l:List Int}{w:World}(h:OwnI B v l w)(n:Nat):OwnI B v l (w.drewN n):=h
theorem X0w{B B':Nat}{v:Value}{l:List Int}{w:World}(h:OwnI B' v l w)(hB:B≤B'):OwnI B v l w:=by
 refine⟨h.1,?_⟩;rcases h.2 with hn | ⟨g,cap,a,hv,hg,r⟩
 ·exact .inl hn
 ·exact .inr ⟨g,cap,a,hv,Nat.le_trans hB hg,r⟩
theorem X1d{B:Nat}{v:Value}{l:List Int}{w:World}(h:OwnI B v l w)(a:Addr)(u:Value)(hne:v.ownBlock=none∨v.ownBlock≠some a.block):OwnI B v l (w.setCell a u):=by
 refine World.ownsRow.kept (row:=some a.block) h ⟨rfl,rfl,rfl,by simp [World.setCell],fun k _ hk=>?_⟩ hne;exact Below.heap_setCell _ _ _ _ (fun e=>hk (by rw[e]))
theorem X2S{B k:Nat}{v:Value}{l:List Int}{w:World}(h:OwnI B v l w)(hk:k<B):v.ownBlock=none∨v.ownBlock≠some k:=by
 refine .inr fun e=>?_;have:=(World.ownsRow.lt h k e).1;omega
theorem XzW{B:Nat}{v:Value}{l:List Int}{w:World}(h:OwnI B v l w)(k:Nat)(hk:v.ownBlock=some k):B≤k:=(World.ownsRow.lt h k hk).1
theorem X0a{B:Nat}{v:Value}{l:List Int}{w:World}(h:OwnI B v l w):RI w v l:=by
 have hc:=fun g hg=>World.ownsRow.cells (g:=g) h hg;have c:=World.ownsRow.lt h;rcases h.2 with⟨rfl,hl⟩ | ⟨g,cap,d,rfl,hB,_,a,_⟩
 ·exact .inl ⟨rfl,List.eq_nil_of_length_eq_zero hl⟩
 ·refine .inr ⟨⟨g,0,none⟩,cap,rfl,a,fun _=>⟨g,0,rfl,(c g rfl).2,fun i hi=>?_⟩⟩;have h:=hc g rfl i (.int .i64 l[i]) (by simp [hi]);have b:(⟨g,0,none⟩:Addr).add i=⟨g,i,none⟩:=by unfold Addr.add;split <;> simp_all
  rw[b] at h;simpa using h
theorem X9K{B:Nat}{v:Value}{l:List Int}{w:World}(h:OwnI B v l w)(hl:0<l.length): ∃b cap,v= .slice (some ⟨b,0,none⟩) l.length cap∧B≤b∧b<w.heap.size∧∀i (h:i<l.length),w.cell? ⟨b,i,none⟩=some (.int .i64 l[i]):=by
 have hc:=fun g hg=>World.ownsRow.cells (g:=g) h hg;have c:=World.ownsRow.lt h;rcases h.2 with⟨rfl,h0⟩ | ⟨g,cap,e,rfl,hB,_,d,_⟩
 ·omega
 ·refine⟨g,cap,rfl,hB,(c g rfl).2,fun i hi=>?_⟩;have h:=hc g rfl i (.int .i64 l[i]) (by simp [hi]);have a:(⟨g,0,none⟩:Addr).add i=⟨g,i,none⟩:=by unfold Addr.add;split <;> simp_all
  rw[a] at h;simpa using h
theorem XEa{w:World}{a:Addr}{n cap:Nat}{l:List Int}(h:RI w (.slice (some a) n cap) l)(k:Nat)(hk:k<l.length): ∃b off,a=⟨b,off,none⟩∧RI w (.slice (some ⟨b,off+k,none⟩) (n - k) (cap - k)) (l.drop k):=by
 rcases h with⟨h,_⟩ | ⟨a',c,he,hc,h⟩
 ·simp at h
 ·simp at he;obtain⟨rfl,rfl,rfl⟩:=he;obtain⟨b,o,rfl,h1,h2⟩:=h (by omega);refine⟨b,o,rfl, .inr ⟨⟨b,o+k,none⟩,cap - k,by rw[List.length_drop],by rw[List.length_drop];omega,fun _=>⟨b,o+k,rfl,h1,fun i hi=>?_⟩⟩⟩;rw[List.length_drop] at hi;rw[List.getElem_drop,Nat.add_assoc];exact h2 (k+i) (by omega)
def Told(l:List Int)(w:World)(e:Ending)(w':World):Prop:=∃v,e= .returned v∧RI w' v l∧Below w.heap.size w w'
def Makes(l:List Int)(w:World)(e:Ending)(w':World):Prop:=∃v,e= .returned v∧OwnI w.heap.size v l w'∧Below w.heap.size w w'
theorem XgM{l:List Int}{w:World}{e:Ending}{w':World}(h:Makes l w e w'):Told l w e w':=by
 obtain⟨v,rfl,hv,hb⟩:=h;exact⟨v,rfl,X0a hv,hb⟩
theorem X05{w w1 w2:World}(h1:Below w.heap.size w w1)(h2:Below w1.heap.size w1 w2):Below w.heap.size w w2:=h1.trans (h2.mono h1.size)
theorem Xt2{w:World}{p:Option Addr}{n cap:Nat}{l:List Int}(h:RI w (.slice p n cap) l)(k:Nat)(hk:k≤l.length):RI w (.slice p k cap) (l.take k):=by
 rcases h with⟨h,rfl⟩ | ⟨a,c,he,hc,h⟩
 ·simp at h hk;obtain⟨rfl,rfl,rfl⟩:=h;subst hk;exact .inl ⟨rfl,rfl⟩
 ·simp at he;obtain⟨rfl,rfl,rfl⟩:=he;have hl:(l.take k).length=k:=by rw[List.length_take];omega
  refine .inr ⟨a,cap,by rw[hl],by rw[hl];omega,fun h0=>?_⟩;rw[hl] at h0;obtain⟨b,o,rfl,h1,h2⟩:=h (by omega);refine⟨b,o,rfl,h1,fun i hi=>?_⟩;rw[hl] at hi;rw[List.getElem_take];exact h2 i (by omega)
theorem XgN{w:World}{b off n cap:Nat}{l:List Int}(h:RI w (.slice (some ⟨b,off,none⟩) n cap) l)(k:Nat)(hk:k≤l.length)(hl:0<l.length):RI w (.slice (some ⟨b,off+k,none⟩) (n - k) (cap - k)) (l.drop k):=by
 rcases h with⟨h,_⟩ | ⟨a,c,he,hc,h⟩
 ·simp at h
 ·simp at he;obtain⟨rfl,rfl,rfl⟩:=he;obtain⟨b',o',he,h1,h2⟩:=h hl;simp at he;obtain⟨rfl,rfl⟩:=he;refine .inr ⟨⟨b,off+k,none⟩,cap - k,by rw[List.length_drop],by rw[List.length_drop];omega,fun _=>⟨b,off+k,rfl,h1,fun i hi=>?_⟩⟩;rw[List.length_drop] at hi;rw[List.getElem_drop,Nat.add_assoc];exact h2 (k+i) (by omega)
theorem Xt3(w:World)(a:Option Addr)(cap:Nat)(h:a=none→cap=0):RI w (.slice a 0 cap) []:=by
 cases a with
 | none=>rw[h rfl];exact .inl ⟨rfl,rfl⟩
 | some a=>exact .inr ⟨a,cap,rfl,Nat.zero_le _,fun h=>by simp at h⟩
theorem Xfw{w:World}{p:Option Addr}{n cap:Nat}{l:List Int}(h:RI w (.slice p n cap) l):n=l.length∧n≤cap∧(p=none→cap=0):=by
 rcases h with⟨h,rfl⟩ | ⟨a,c,he,hc,h⟩
 ·simp at h;obtain⟨rfl,rfl,rfl⟩:=h;exact⟨rfl,Nat.le_refl _,fun _=>rfl⟩
 ·simp at he;obtain⟨rfl,rfl,rfl⟩:=he;exact⟨rfl,hc,fun h=>by cases h⟩
def sameB(a b:List Int):Bool:=decide (a=b)
theorem X32{a b:Nat}(h:a=b):((a:Int) != (b:Int))=false:=by subst h;simp
def Xgc(w:World)(l m:List Int)(k:Nat)(wr:World):Prop:=l.take k=m.take k∧∃n,wr=w.drewN n
theorem X5s{l m:List Int}{k:Nat}(h1:k<l.length)(h2:k<m.length)(h:l.take k=m.take k)(hx:l[k]=m[k]):l.take (k+1)=m.take (k+1):=by
 rw[List.take_succ_eq_append_getElem h1,List.take_succ_eq_append_getElem h2,h,hx]
theorem Xcl(b1 o1 c1 b2 o2 c2:Nat)(l m:List Int)(w:World)(hl:l.length≤100000)(hlm:l.length=m.length)
 (h1: ∀i (h:i<l.length),w.cell? ⟨b1,o1+i,none⟩=some (.int .i64 l[i])) (h2: ∀i (h:i<m.length),w.cell? ⟨b2,o2+i,none⟩=some (.int .i64 m[i])):
 Calls Tryz.prog 28 #[.slice (some ⟨b1,o1,none⟩) l.length c1, .slice (some ⟨b2,o2,none⟩) m.length c2] w fun e w'=>e= .returned (.bool (sameB l m))∧∃n,w'=w.drewN n:=by
 have e1:=X4u hlm;have e3:=X32 hlm;have h1:=hid h1;have h2:=hid h2;have c:=hid hlm;clear hlm;go_enter Tryz.func28,Tryz.ntmps28;go_wp2_with fail
 go_loopw [5] (fun i wr=>∃k:Nat,k≤l.length∧i= .int .i64 k∧Xgc w l m k wr) (fun i _=>l.length - (RowKit.intOf i).toNat)
 case atStart=>exact⟨0,Nat.zero_le _,rfl,rfl,0,rfl⟩
 case round=>
  obtain⟨k,hk,rfl,hr⟩:=hrel;obtain⟨b,n,rfl⟩:=hr;have b:=hid b;by_cases hlt:k<l.length
  ·have d:k<m.length:=by have:=c.out;omega
   obtain⟨x,hx⟩: ∃x,l[k]=x:=⟨_,rfl⟩;obtain⟨y,hy⟩: ∃y,m[k]=y:=⟨_,rfl⟩;have g:(w.drewN n).cell? ⟨b1,o1+k,none⟩=some (.int .i64 x):=by rw[←hx];exact h1.out k hlt
   have j:(w.drewN n).cell? ⟨b2,o2+k,none⟩=some (.int .i64 y):=by rw[←hy];exact h2.out k d
   have hx:=hid hx;have hy:=hid hy;have o:(k:Int)<(l.length:Int):=by omega
   have p:(k:Int)<(m.length:Int):=by omega
   by_cases hxy:x=y
   ·have f1:(x == y)=true:=beq_iff_eq.2 hxy;have f2:(x != y)=false:=by simp [hxy]
    have a:=hid (X5s hlt d b.out (hx.out.trans (hxy.trans hy.out.symm)));clear hxy;go_wp2_with fail;go_quiet (fail);go_wp2_with fail
    go_roundw
    case rel=>exact⟨k+1,by omega,by go_num,a.out,_,by first | rfl | exact World.drewN_drewN _ _ _⟩
    case measure=>simp [RowKit.intOf];omega
   ·have f1:(x == y)=false:=beq_eq_false_iff_ne.2 hxy;have f2:(x != y)=true:=by simp [hxy]
    have a:sameB l m=false:=by
     unfold sameB;refine decide_eq_false fun e=>hxy ?_;subst e;exact hx.out.symm.trans hy.out
    have a:=hid a;clear hxy;go_wp2_with fail;go_quiet (fail);go_wp2_with fail;go_ret;exact⟨X0p a.out.symm,_,by first | rfl | exact World.drewN_drewN _ _ _⟩
  ·have a:sameB l m=true:=by
    unfold sameB;have h0:=b.out;have f:k=l.length:=by omega
    subst f;rw[List.take_length,List.take_of_length_le (by have:=c.out;omega)] at h0;exact decide_eq_true h0
   have a:=hid a;go_wp2_with fail;go_ret;exact⟨X0p a.out.symm,n,rfl⟩
theorem Xcm(v1 v2:Option Addr)(n m c1 c2:Nat)(w:World)(hlm: ¬n=m):
 Calls Tryz.prog 28 #[.slice v1 n c1, .slice v2 m c2] w fun e w'=>e= .returned (.bool false)∧w=w':=by
 have e1:=X5i hlm;have e3:((n:Int) != (m:Int))=true:=by simp;omega
 clear hlm;go_enter Tryz.func28,Tryz.ntmps28;go_wp2_with fail;go_ret;exact⟨rfl,rfl⟩
theorem Xas(v1 v2:Option Addr)(c1 c2:Nat)(w:World):
 Calls Tryz.prog 28 #[.slice v1 0 c1, .slice v2 0 c2] w fun e w'=>e= .returned (.bool true)∧w=w':=by
 go_enter Tryz.func28,Tryz.ntmps28;go_wp2_with fail;refine wp_loop_rounds 1 ?_;rw[rounds_succ];go_wp2_with fail;go_ret;exact⟨rfl,rfl⟩
theorem X36(v1 v2:Value)(l m:List Int)(w:World)(hl:l.length≤100000)(h1:RI w v1 l)(h2:RI w v2 m):
 Calls Tryz.prog 28 #[v1,v2] w fun e w'=>e= .returned (.bool (sameB l m))∧∃n,w'=w.drewN n:=by
 have b: ∀ (a1 a2:Option Addr) (k1 k2:Nat),l.length≠m.length→Calls Tryz.prog 28 #[.slice a1 l.length k1, .slice a2 m.length k2] w fun e w'=>e= .returned (.bool (sameB l m))∧∃n,w'=w.drewN n:=by
  intro a1 a2 k1 k2 a;have:sameB l m=false:=decide_eq_false fun e=>a (by rw[e]);rw[this];exact(Xcm a1 a2 _ _ k1 k2 w a).mono fun e w' ⟨p,q⟩=>⟨p,0,q.symm⟩
 obtain⟨p1,c1,rfl⟩:=X0b h1;obtain⟨p2,c2,rfl⟩:=X0b h2;by_cases hlm:l.length=m.length
 ·cases l with
  |
   nil=>
   cases m with
   | nil=>exact(Xas p1 p2 c1 c2 w).mono fun e w' ⟨p,q⟩=>⟨p,0,q.symm⟩
   | cons y m=>simp at hlm
  |
   cons x l=>
   obtain⟨b1,o1,rfl,_,g1⟩:=ri_at h1 (by simp);obtain⟨b2,o2,rfl,_,g2⟩:=ri_at h2 (by rw[←hlm];simp);exact Xcl b1 o1 c1 b2 o2 c2 (x::l) m w hl hlm g1 g2
 ·exact b _ _ c1 c2 hlm
theorem X0t(v1 v2:Value)(l:List Int)(w:World)(hl:l.length≤100000)(h1:RI w v1 l)(h2:RI w v2 l):
 Calls Tryz.prog 28 #[v1,v2] w fun e w'=>e= .returned (.bool true)∧Below w.heap.size w w':=by
 refine(X36 v1 v2 l l w hl h1 h2).mono ?_;rintro e w' ⟨rfl,n,rfl⟩;exact⟨by rw[show sameB l l=true from decide_eq_true rfl],X0U w n⟩
def WfI(l:List Int):Prop:=∀x∈l,-9223372036854775808≤x∧x≤9223372036854775807
end Go.Proofs.YtkofnpkopbnocaaGreatDoor
