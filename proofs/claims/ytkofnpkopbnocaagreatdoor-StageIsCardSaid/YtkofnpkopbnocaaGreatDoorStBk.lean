import Derived.Deep.RegionHeld3
import Derived.WalkKit
import Derived.Test.YtkofnpkopbnocaaGreatDoorBasP
import Derived.Test.YtkofnpkopbnocaaGreatDoorChPk
import Derived.Test.YtkofnpkopbnocaaGreatDoorTk
import Derived.Laws.Rows
import Derived.Laws.Tables
import Derived.Laws.CopyOwn
import Derived.Deep.MidRow
import Derived.Laws.ResultCell
import Derived.Test.YtkofnpkopbnocaaGreatDoorStMk
import Derived.Test.YtkofnpkopbnocaaGreatDoorMaSk
import Derived.Test.YtkofnpkopbnocaaGreatDoorMaBP
import Derived.Test.YtkofnpkopbnocaaGreatDoorKP
set_option linter.unusedSimpArgs false
set_option linter.unusedVariables false
namespace Go.Proofs.YtkofnpkopbnocaaGreatDoor
open Go Go.RowKit Go.Lib
namespace RgA
variable {P:Program} {ops:Array Oper} {Q:Exit→Act→World→Prop}
def dsts(ops:Array Oper)(k:Nat):Nat:=((ops[k]?).bind (·.dst)).getD 0
def Xbw(ops:Array Oper)(i j:Nat):Bool:=((ops[i]?).map fun o=>o.after.any fun e=>Region.binds .any e && e.on == j).getD false
def mkT(ops:Array Oper)(y:Nat→Value)(L:List Nat)(t:Array Value):Array Value:=L.foldl (fun t j=>t.setIfInBounds (dsts ops j) (y j)) t
def mkA(ops:Array Oper)(L:List Nat)(a0:Act)(y:Nat→Value):Act:= { a0 with tmps:=mkT ops y L a0.tmps }
def lst(ops:Array Oper)(L:List Nat):Array Bool:=(Array.range ops.size).map fun i=>L.contains i
def subs:List Nat→List (List Nat)
 | []=> [[]]
 | a::l=>subs l++(subs l).map (a:: ·)
theorem Xma(p:Nat→Bool)(l:List Nat):l.filter p∈subs l:=by
 induction l with
 | nil=>simp [subs]
 |
  cons a l ih=>
  rw[List.filter_cons,subs]
  split
  ·exact List.mem_append_right _ (List.mem_map.2 ⟨_,ih,rfl⟩)
  ·exact List.mem_append_left _ ih
theorem XxV(t:Array Value){i j:Nat}(h:i≠j)(u v:Value):(t.setIfInBounds i u).setIfInBounds j v=(t.setIfInBounds j v).setIfInBounds i u:=Array.setIfInBounds_comm _ _ h
theorem XAK(y:Nat→Value)(L:List Nat)(t:Array Value)(i:Nat)(v:Value)(h:i ∉ L.map (dsts ops)):(mkT ops y L t).setIfInBounds i v=mkT ops y L (t.setIfInBounds i v):=by
 induction L generalizing t with
 | nil=>rfl
 |
  cons j L ih=>
  rw[List.map_cons,List.mem_cons,not_or] at h
  show (mkT ops y L (t.setIfInBounds (dsts ops j) (y j))).setIfInBounds i v=mkT ops y L ((t.setIfInBounds i v).setIfInBounds (dsts ops j) (y j))
  rw[ih _ h.2,XxV t (Ne.symm h.1)]
theorem XuG(y z:Nat→Value)(L:List Nat)(t:Array Value)(h: ∀j∈L,y j=z j):mkT ops y L t=mkT ops z L t:=by
 induction L generalizing t with
 | nil=>rfl
 |
  cons j L ih=>
  show mkT ops y L (t.setIfInBounds (dsts ops j) (y j))=mkT ops z L (t.setIfInBounds (dsts ops j) (z j))
  rw[h j (List.mem_cons_self),ih _ (fun k hk=>h k (List.mem_cons_of_mem _ hk))]
def upd(y:Nat→Value)(k:Nat)(v:Value):Nat→Value:=fun j=>if j=k then v else y j
theorem XuH(y:Nat→Value)(L:List Nat)(hn:(L.map (dsts ops)).Nodup)(k:Nat)(hk:k∈L)(v:Value)(t:Array Value):(mkT ops y L t).setIfInBounds (dsts ops k) v=mkT ops (upd y k v) L t:=by
 induction L generalizing t with
 | nil=>cases hk
 |
  cons j L ih=>
  rw[List.map_cons,List.nodup_cons] at hn
  show (mkT ops y L (t.setIfInBounds (dsts ops j) (y j))).setIfInBounds (dsts ops k) v=mkT ops (upd y k v) L (t.setIfInBounds (dsts ops j) (upd y k v j))
  by_cases hj:j=k
  ·subst hj;rw[XAK _ _ _ _ _ hn.1];have e1:upd y j v j=v:=if_pos rfl;have e2:(t.setIfInBounds (dsts ops j) (y j)).setIfInBounds (dsts ops j) v=t.setIfInBounds (dsts ops j) v:=by
    apply Array.ext_getElem?;intro i;by_cases hi:dsts ops j=i
    ·subst hi;by_cases hs:dsts ops j<t.size
     ·simp [hs]
     ·simp [hs]
    ·rw[Array.getElem?_setIfInBounds_ne hi,Array.getElem?_setIfInBounds_ne hi,Array.getElem?_setIfInBounds_ne hi]
   rw[e1,e2];refine XuG _ _ _ _ fun i hi=>?_;have:i≠j:=fun e=>hn.1 (e ▸ List.mem_map.2 ⟨i,hi,rfl⟩);exact(if_neg this).symm
  ·have a:k∈L:=(List.mem_cons.1 hk).resolve_left (fun e=>hj e.symm);have e1:upd y k v j=y j:=if_neg hj;rw[ih hn.2 a,e1]
theorem XxW(L:List Nat)(t:Array Value):mkT ops (fun k=>t.getD (dsts ops k) undef) L t=t:=by
 have h1: ∀i:Nat,t.setIfInBounds i (t.getD i undef)=t:=by
  intro i;apply Array.ext_getElem?;intro j;by_cases hj:i=j
  ·subst hj;by_cases hs:i<t.size
   ·simp [hs]
   ·simp [hs]
  ·rw[Array.getElem?_setIfInBounds_ne hj]
 have h2: ∀ (y:Nat→Value) (L:List Nat),(∀j∈L,y j=t.getD (dsts ops j) undef)→mkT ops y L t=t:=by
  intro y L h
  induction L with
  | nil=>rfl
  |
   cons j L ih=>
   show mkT ops y L (t.setIfInBounds (dsts ops j) (y j))=t
   rw[h j List.mem_cons_self,h1];exact ih (fun k hk=>h k (List.mem_cons_of_mem _ hk))
 exact h2 _ L (fun _ _=>rfl)
def New(v:Value)(w w':World):Prop:=∃p,v= .pointer (some ⟨p,0,none⟩)∧w.heap.size≤p∧p<w'.heap.size
def reach(ops:Array Oper):Nat→Nat→Nat→Bool
 | 0,i,k=>Xbw ops i k
 | n+1,i,k=>Xbw ops i k || (List.range ops.size).any fun j=>Xbw ops i j && reach ops n j k
theorem XGJ{listed:Array Bool}(hc: ∀j k,listed.getD j false=true→Xbw ops j k=true→listed.getD k false=true): ∀ (n i k:Nat),(∀j,Xbw ops i j=true→listed.getD j false=true)→reach ops n i k=true→listed.getD k false=true:=by
 intro n
 induction n with
 | zero=>intro i k h hr;exact h k hr
 |
  succ n ih=>
  intro i k h hr;unfold reach at hr;rw[Bool.or_eq_true] at hr;rcases hr with hr | hr
  ·exact h k hr
  ·obtain⟨j,_,hj⟩:=List.any_eq_true.1 hr;rw[Bool.and_eq_true] at hj;exact ih j k (fun m hm=>hc j m (h j hj.1) hm) hj.2
def chk(ops:Array Oper)(X Y:List Nat):Bool:=
 decide ((X++Y).map (dsts ops)).Nodup && decide (X++Y).Nodup && decide ((X++Y).length≤ops.size) &&
 (X++Y).all (fun k=>decide (k<ops.size) && ((ops[k]?).bind (·.dst)).isSome && ((ops[k]?).map fun o=>o.after.all fun e=> !Region.binds .any e || (decide (e.on<k) && (X++Y).contains e.on)).getD false) &&
 (List.range ops.size).all (fun i=>(X++Y).contains i || ((ops[i]?).map fun o=>o.after.any fun e=>Region.binds .any e && !(X++Y).contains e.on).getD false || X.all fun k=>reach ops 2 i k)
def Steps(P:Program)(ops:Array Oper)(Q:Exit→Act→World→Prop)(F:Nat→(Nat→Prop)→Value→World→Prop)(J0:Nat→Prop)(A L:List Nat)(a0:Act)(w0:World)(ks:List Nat):Prop:=
 ∀k∈ks,∀o,ops[k]? =some o→∀y w J,(∀p,J p→p<w.heap.size∧(J0 p∨w0.heap.size≤p))→(∀p,J0 p→J p)→Below w0.heap.size w0 w→(∀j,Xbw ops k j=true→F j J (y j) w)→∀K':Act→World→Prop,Shut (∀v w',F k J v w'→Below w.heap.size w w'→(k∈A→New v w w')→K' ((mkA ops L a0 y).put o.dst v) w')→if Region.wanted o (yielded ops (mkA ops L a0 y).tmps)=true then Oper.wp P o (mkA ops L a0 y) w K' Q else K' ((mkA ops L a0 y).put o.dst undef) w
theorem Steps.nil{F:Nat→(Nat→Prop)→Value→World→Prop}{J0:Nat→Prop}{A L:List Nat}{a0:Act}{w0:World} :Steps P ops Q F J0 A L a0 w0 []:=fun _ h=>by cases h
theorem Steps.cons{F:Nat→(Nat→Prop)→Value→World→Prop}{J0:Nat→Prop}{A L:List Nat}{a0:Act}{w0:World}{k:Nat}{ks:List Nat}{o:Oper}(ho:ops[k]? =some o)
 (h: ∀y w J,(∀p,J p→p<w.heap.size∧(J0 p∨w0.heap.size≤p))→(∀p,J0 p→J p)→Below w0.heap.size w0 w→(∀j,Xbw ops k j=true→F j J (y j) w)→∀K':Act→World→Prop,Shut (∀v w',F k J v w'→Below w.heap.size w w'→(k∈A→New v w w')→K' ((mkA ops L a0 y).put o.dst v) w')→if Region.wanted o (yielded ops (mkA ops L a0 y).tmps)=true then Oper.wp P o (mkA ops L a0 y) w K' Q else K' ((mkA ops L a0 y).put o.dst undef) w)
 (hs:Steps P ops Q F J0 A L a0 w0 ks):Steps P ops Q F J0 A L a0 w0 (k::ks):=fun j hj o' a=>by
 rcases List.mem_cons.1 hj with rfl | hj
 ·rw[ho] at a;cases a;exact h
 ·exact hs j hj o' a
theorem Xqc(L:List Nat)(hn:L.Nodup)(listed:Array Bool)(i:Nat)(hi:i∈L)(h0:listed.getD i true=false):
 (L.filter (fun k=>(listed.setIfInBounds i true).getD k false)).length=(L.filter (fun k=>listed.getD k false)).length+1:=by
 have a:i<listed.size:=by
  rcases Nat.lt_or_ge i listed.size with h | h
  ·exact h
  ·simp [Array.getElem?_eq_none h] at h0
 have h1:(listed.setIfInBounds i true).getD i false=true:=by simp [a]
 have h2:listed.getD i false=false:=by simp [a] at h0 ⊢;exact h0
 induction L with
 | nil=>cases hi
 |
  cons j L ih=>
  rw[List.nodup_cons] at hn;by_cases hj:j=i
  ·subst hj;rw[List.filter_cons,List.filter_cons,h1,h2];simp only[if_true,Bool.false_eq_true,if_false,List.length_cons];have:L.filter (fun k=>(listed.setIfInBounds j true).getD k false)=L.filter (fun k=>listed.getD k false):=List.filter_congr fun k hk=>by
    have:j≠k:=fun e=>hn.1 (e ▸ hk);rw[getD_set_ne false this]
   rw[this]
  ·have:=ih hn.2 ((List.mem_cons.1 hi).resolve_left (fun e=>hj e.symm));rw[List.filter_cons,List.filter_cons,getD_set_ne false (Ne.symm hj)]
   split
   ·rw[List.length_cons,List.length_cons,this]
   ·exact this
def JJ(J0:Nat→Prop)(A:List Nat)(listed:Array Bool)(y:Nat→Value):Nat→Prop:=fun p=>J0 p∨∃j∈A,listed.getD j false=true∧y j= .pointer (some ⟨p,0,none⟩)
structure Inv (ops:Array Oper) (X Y A:List Nat) (F:Nat→(Nat→Prop)→Value→World→Prop) (J0:Nat→Prop) (w0:World) (fuel:Nat) (listed:Array Bool) (y:Nat→Value) (w:World):Prop where
 bel:Below w0.heap.size w0 w
 size:listed.size=ops.size
 out: ∀k,k ∉ X++Y→listed.getD k false=false
 fs: ∀k∈X++Y,listed.getD k false=true→F k (JJ J0 A listed y) (y k) w
 ptr: ∀k∈A,listed.getD k false=true→∃p,y k= .pointer (some ⟨p,0,none⟩)∧p<w.heap.size∧w0.heap.size≤p
 ne: ∀j∈A,∀k∈A,j≠k→listed.getD j false=true→listed.getD k false=true→y j≠y k
 fuel:fuel+((X++Y).filter (fun k=>listed.getD k false)).length=ops.size
 clos: ∀j k,listed.getD j false=true→Xbw ops j k=true→listed.getD k false=true
theorem XuI{J0:Nat→Prop}{X Y A:List Nat}{F:Nat→(Nat→Prop)→Value→World→Prop}{w0:World}{fuel:Nat}{listed:Array Bool}{y:Nat→Value}{w:World}(hJ0: ∀p,J0 p→p<w0.heap.size)(I:Inv ops X Y A F J0 w0 fuel listed y w): ∀p,JJ J0 A listed y p→p<w.heap.size∧(J0 p∨w0.heap.size≤p):=by
 rintro p (h | ⟨j,hj,hl,e⟩)
 ·exact⟨Nat.lt_of_lt_of_le (hJ0 p h) I.bel.size, .inl h⟩
 ·obtain⟨q,e2,hq,a⟩:=I.ptr j hj hl;rw[e] at e2;cases e2;exact⟨hq, .inr a⟩
theorem XAL{S:World→Prop}(J0:Nat→Prop)(X Y A:List Nat)(F:Nat→(Nat→Prop)→Value→World→Prop)(a0:Act)(w0:World)(hSB: ∀w',Below w0.heap.size w0 w'→S w')(hc:chk ops X Y=true)(hA: ∀k∈A,k∈X)
 (hJ0: ∀p,J0 p→p<w0.heap.size) (stable: ∀k J v w w',F k J v w→Below w.heap.size w w'→F k J v w')
 (fresh: ∀k J v w p,F k J v w→w.heap.size≤p→F k (fun j=>J j∨j=p) v w) (self: ∀k∈A,∀J J' v w,F k J v w→F k J' v w)
 (step:Steps P ops Q F J0 A (X++Y) a0 w0 (X++Y))
 (fin: ∀Z∈subs Y,∀y w,Below w0.heap.size w0 w→∀J,(∀p,J0 p→J p)→(∀j∈A,∀p,y j= .pointer (some ⟨p,0,none⟩)→J p)→(∀p,J p→p<w.heap.size∧(J0 p∨w0.heap.size≤p))→(∀k∈X++Z,F k J (y k) w)→(∀j∈A,∀k∈A,j≠k→y j≠y k)→wpAnyH P .any ops Q S (ops.size - (X++Z).length) (lst ops (X++Z)) (mkA ops (X++Y) a0 y) w):
 ∀fuel a y w,Inv ops X Y A F J0 w0 fuel a y w→wpAnyH P .any ops Q S fuel a (mkA ops (X++Y) a0 y) w:=by
 unfold chk at hc;simp only[Bool.and_eq_true,decide_eq_true_eq,List.all_eq_true] at hc;obtain⟨⟨⟨⟨hn,a5⟩,a9⟩,hX⟩,T⟩:=hc;have B: ∀k∈X++Y,∃o,ops[k]? =some o∧o.dst=some (dsts ops k)∧∀e∈o.after,Region.binds .any e=true→e.on<k∧e.on∈X++Y:=by
  intro k hk;obtain⟨⟨h1,h2⟩,h3⟩:=hX k hk;cases ho:ops[k]? with
  | none=>rw[ho] at h3;cases h3
  |
   some o=>
   rw[ho] at h2 h3;simp only[Option.bind_some] at h2;refine⟨o,rfl,?_,fun e he hb=>?_⟩
   ·unfold dsts;rw[ho];simp only[Option.bind_some];obtain⟨d,hd⟩:=Option.isSome_iff_exists.1 h2;rw[hd];rfl
   ·simp only[Option.map_some,Option.getD_some,Array.all_eq_true_iff_forall_mem] at h3;have:=h3 e he;rw[hb] at this;simpa using this
 have t: ∀fuel a y w,Inv ops X Y A F J0 w0 fuel a y w→(∀k∈X,a.getD k false=true)→wpAnyH P .any ops Q S fuel a (mkA ops (X++Y) a0 y) w:=by
  intro fuel a y w I c;have a2:X.filter (fun k=>a.getD k false)=X:=List.filter_eq_self.2 c;have N:=I.fuel;rw[List.filter_append,a2] at N;have hl:a=lst ops (X++Y.filter (fun k=>a.getD k false)):=by
   apply Array.ext_getElem?;intro i;by_cases hi:i<ops.size
   ·have g:i<a.size:=by rw[I.size];exact hi
    have hb:a.getD i false=a[i]:=by simp [g]
    unfold lst;simp only[Array.getElem?_map,Array.getElem?_range,hi,g,if_true,Option.map_some,Array.getElem?_eq_getElem]
    congr 1
    rw[←hb];cases hv:a.getD i false with
    |
     true=>
     have hm:i∈X++Y:=Classical.byContradiction fun h=>by rw[I.out i h] at hv;cases hv
     symm;rw[List.contains_iff_mem];rcases List.mem_append.1 hm with h | h
     ·exact List.mem_append_left _ h
     ·exact List.mem_append_right _ (List.mem_filter.2 ⟨h,hv⟩)
    |
     false=>
     symm;rw[Bool.eq_false_iff];intro h;rw[List.contains_iff_mem] at h;rcases List.mem_append.1 h with h | h
     ·rw[c i h] at hv;cases hv
     ·rw[(List.mem_filter.1 h).2] at hv;cases hv
   ·have h1:a[i]? =none:=Array.getElem?_eq_none (by rw[I.size];omega);have h2:(lst ops (X++Y.filter (fun k=>a.getD k false)))[i]? =none:=Array.getElem?_eq_none (by unfold lst;simp;omega);rw[h1,h2]
  have hf:fuel=ops.size - (X++Y.filter (fun k=>a.getD k false)).length:=by omega
  have H:=fin (Y.filter (fun k=>a.getD k false)) (Xma _ _) y w I.bel (JJ J0 A a y) (fun p h=> .inl h) (fun j hj p e=> .inr ⟨j,hj,c j (hA j hj),e⟩) (XuI hJ0 I) (fun k hk=>by
   rcases List.mem_append.1 hk with h | h
   ·exact I.fs k (List.mem_append_left _ h) (c k h)
   ·exact I.fs k (List.mem_append_right _ (List.mem_filter.1 h).1) (List.mem_filter.1 h).2) (fun j hj k hk u=>I.ne j hj k hk u (c j (hA j hj)) (c k (hA k hk)))
  rw[←hl,←hf] at H;exact H
 intro fuel
 induction fuel with
 |
  zero=>
  intro a y w I;refine t _ _ _ _ I fun k hk=>?_;have N:=I.fuel;cases hv:a.getD k false with
  | true=>rfl
  |
   false=>
   have:=List.length_filter_lt_length_iff_exists (p:=fun k=>a.getD k false) (l:=X++Y) |>.2 ⟨k,List.mem_append_left _ hk,by simp only[hv];decide⟩;omega
 |
  succ fuel ih=>
  intro a y w I;by_cases c: ∀k∈X,a.getD k false=true
  ·exact t _ _ _ _ I c
  ·have V: ∀i,i<ops.size→a.getD i true=a.getD i false:=fun i hi=>by
    have g:i<a.size:=by rw[I.size];exact hi
    simp [g]
   have G: ∀k,k∈X++Y→a.getD k false=false→∃i,i∈Region.ready .any ops a:=by
    intro k
    induction k using Nat.strongRecOn with
    |
     ind k ihk=>
     intro hk h0;obtain⟨o,ho,_,f⟩:=B k hk;have s:k<ops.size:=(Array.getElem?_eq_some_iff.1 ho).1;by_cases hd: ∀e∈o.after,Region.binds .any e=true→a.getD e.on false=true
     ·exact⟨k,mem_ready.2 ⟨by rw[V k s];exact h0,o,ho,hd⟩⟩
     ·obtain⟨e,he⟩:=Classical.not_forall.1 hd;obtain⟨L,he⟩:=Classical.not_forall.1 he;obtain⟨M,he⟩:=Classical.not_forall.1 he;exact ihk e.on (f e L M).1 (f e L M).2 (by simpa using he)
   refine⟨fun hr=>?_,fun i hi=>?_⟩
   ·exfalso;obtain⟨k,hk⟩:=Classical.not_forall.1 c;obtain⟨a3,a4⟩:=Classical.not_forall.1 hk;obtain⟨i,hi⟩:=G k (List.mem_append_left _ a3) (by simpa using a4);rw[hr] at hi;cases hi
   ·obtain⟨h0,o,ho,r⟩:=mem_ready.1 hi;have s:i<ops.size:=(Array.getElem?_eq_some_iff.1 ho).1;have hm:i∈X++Y:=by
     have h:=T i (List.mem_range.2 s);rw[Bool.or_eq_true,Bool.or_eq_true] at h;rcases h with(h | h) | h
     ·rw[List.contains_iff_mem] at h;exact h
     ·exfalso;rw[ho] at h;simp only[Option.map_some,Option.getD_some,←Array.any_toList,List.any_eq_true] at h;obtain⟨e,he,h⟩:=h;rw[Array.mem_toList_iff] at he;rw[Bool.and_eq_true] at h;have h1:=r e he h.1;rw[I.out e.on (fun hm=>by rw[List.contains_iff_mem.2 hm] at h;cases h.2)] at h1;cases h1
     ·exfalso;apply c;intro k hk;refine XGJ I.clos 2 i k (fun j h1=>?_) ((List.all_eq_true.1 h) k hk);unfold Xbw at h1;rw[ho] at h1;simp only[Option.map_some,Option.getD_some,←Array.any_toList,List.any_eq_true] at h1;obtain⟨e,he,h1⟩:=h1;rw[Array.mem_toList_iff] at he;rw[Bool.and_eq_true] at h1;have h2:e.on=j:=beq_iff_eq.1 h1.2;rw[←h2];exact r e he h1.1
    obtain⟨o',R,a1,f⟩:=B i hm;rw[ho] at R;cases R;refine wpOp_step ho (fun K' hK=>step i hm o ho y w (JJ J0 A a y) (XuI hJ0 I) (fun p h=> .inl h) I.bel (fun j hj=>?_) K' (fun v w' hF hB hN=>?_))
    ·unfold Xbw at hj;rw[ho] at hj;simp only[Option.map_some,Option.getD_some,←Array.any_toList,List.any_eq_true] at hj;obtain⟨e,he,hj⟩:=hj;rw[Array.mem_toList_iff] at he;rw[Bool.and_eq_true] at hj;have h2:e.on=j:=beq_iff_eq.1 hj.2;rw[←h2];exact I.fs _ (f e he hj.1).2 (r e he hj.1)
    ·have U:(mkA ops (X++Y) a0 y).put o.dst v=mkA ops (X++Y) a0 (upd y i v):=by
      rw[a1];unfold mkA Act.put;simp only
      rw[XuH y (X++Y) hn i hm v]
     rw[U];have z:=I.bel.trans (hB.mono I.bel.size);have K:i ∉ A→JJ J0 A (a.setIfInBounds i true) (upd y i v)=JJ J0 A a y:=fun n=>by
      funext p;apply propext;constructor
      ·rintro (h | ⟨j,hj,hl,e⟩)
       ·exact .inl h
       ·have b:j≠i:=fun e=>n (e ▸ hj);rw[getD_set_ne false (Ne.symm b)] at hl;unfold upd at e;rw[if_neg b] at e;exact .inr ⟨j,hj,hl,e⟩
      ·rintro (h | ⟨j,hj,hl,e⟩)
       ·exact .inl h
       ·have b:j≠i:=fun e=>n (e ▸ hj);refine .inr ⟨j,hj,by rw[getD_set_ne false (Ne.symm b)];exact hl,?_⟩;unfold upd;rw[if_neg b];exact e
     have W: ∀q,i∈A→v= .pointer (some ⟨q,0,none⟩)→JJ J0 A (a.setIfInBounds i true) (upd y i v)=fun p=>JJ J0 A a y p∨p=q:=fun q n hv=>by
      have g:i<a.size:=by rw[I.size];exact s
      funext p;apply propext;constructor
      ·rintro (h | ⟨j,hj,hl,e⟩)
       ·exact .inl (.inl h)
       ·by_cases b:j=i
        ·subst b;unfold upd at e;rw[if_pos rfl,hv] at e;cases e;exact .inr rfl
        ·rw[getD_set_ne false (Ne.symm b)] at hl;unfold upd at e;rw[if_neg b] at e;exact .inl (.inr ⟨j,hj,hl,e⟩)
      ·rintro ((h | ⟨j,hj,hl,e⟩) | rfl)
       ·exact .inl h
       ·by_cases b:j=i
        ·subst b;have:=V j s;rw[h0,hl] at this;cases this
        ·refine .inr ⟨j,hj,by rw[getD_set_ne false (Ne.symm b)];exact hl,?_⟩;unfold upd;rw[if_neg b];exact e
       ·refine .inr ⟨i,n,by simp [g],?_⟩;unfold upd;rw[if_pos rfl];exact hv
     refine hK _ _ ⟨hSB _ z,ih _ _ _ ⟨z,by rw[Array.size_setIfInBounds];exact I.size,fun k hk=>?_,fun k hk hl=>?_,fun k hk hl=>?_,fun j hj k hk u hl x=>?_,?_,fun j k hl hd=>?_⟩⟩
     ·rw[getD_set_ne false (fun e=>hk (by rw[←e];exact hm))];exact I.out k hk
     ·by_cases hki:k=i
      ·subst hki;have e1:upd y k v k=v:=if_pos rfl;rw[e1];by_cases hkA:k∈A
       ·exact self k hkA _ _ _ _ hF
       ·rw[K hkA];exact hF
      ·rw[getD_set_ne false (Ne.symm hki)] at hl;have e1:upd y i v k=y k:=if_neg hki;rw[e1];by_cases n:i∈A
       ·obtain⟨q,hq,a7,_⟩:=hN n;rw[W q n hq];exact stable k _ _ _ _ (fresh k _ _ _ q (I.fs k hk hl) a7) hB
       ·rw[K n];exact stable k _ _ _ _ (I.fs k hk hl) hB
     ·by_cases hki:k=i
      ·subst hki;obtain⟨p,hp,D,E⟩:=hN hk;unfold upd;rw[if_pos rfl];exact⟨p,hp,E,Nat.le_trans I.bel.size D⟩
      ·rw[getD_set_ne false (Ne.symm hki)] at hl;unfold upd;rw[if_neg hki];obtain⟨p,hp,E,a6⟩:=I.ptr k hk hl;exact⟨p,hp,Nat.lt_of_lt_of_le E hB.size,a6⟩
     ·unfold upd;by_cases b:j=i
      ·subst b;have O:k≠j:=Ne.symm u;rw[getD_set_ne false (Ne.symm O)] at x;rw[if_pos rfl,if_neg O];obtain⟨p,hp,D,_⟩:=hN hj;obtain⟨q,hq,a8,_⟩:=I.ptr k hk x;rw[hp,hq];intro e;cases e;omega
      ·rw[getD_set_ne false (Ne.symm b)] at hl;rw[if_neg b];by_cases hki:k=i
       ·subst hki;rw[if_pos rfl];obtain⟨p,hp,D,_⟩:=hN hk;obtain⟨q,hq,a8,_⟩:=I.ptr j hj hl;rw[hp,hq];intro e;cases e;omega
       ·rw[getD_set_ne false (Ne.symm hki)] at x;rw[if_neg hki];exact I.ne j hj k hk u hl x
     ·have h2:=I.fuel;rw[Xqc (X++Y) a5 a i hm h0];omega
     ·have g:i<a.size:=by rw[I.size];exact s
      have C: ∀m,a.getD m false=true→(a.setIfInBounds i true).getD m false=true:=fun m h=>by
       by_cases hmi:m=i
       ·subst hmi;simp [g]
       ·rw[getD_set_ne false (Ne.symm hmi)];exact h
      by_cases b:j=i
      ·subst b;unfold Xbw at hd;rw[ho] at hd;simp only[Option.map_some,Option.getD_some,←Array.any_toList,List.any_eq_true] at hd;obtain⟨e,he,hd⟩:=hd;rw[Array.mem_toList_iff] at he;rw[Bool.and_eq_true] at hd;have h2:e.on=k:=beq_iff_eq.1 hd.2;rw[←h2];exact C _ (r e he hd.1)
      ·rw[getD_set_ne false (Ne.symm b)] at hl;exact C _ (I.clos j k hl hd)
theorem XuJ{S:World→Prop}(J0:Nat→Prop)(X Y A:List Nat)(F:Nat→(Nat→Prop)→Value→World→Prop)(a0:Act)(w0:World)(hSB: ∀w',Below w0.heap.size w0 w'→S w')(hc:chk ops X Y=true)(hA: ∀k∈A,k∈X)
 (hJ0: ∀p,J0 p→p<w0.heap.size) (stable: ∀k J v w w',F k J v w→Below w.heap.size w w'→F k J v w')
 (fresh: ∀k J v w p,F k J v w→w.heap.size≤p→F k (fun j=>J j∨j=p) v w) (self: ∀k∈A,∀J J' v w,F k J v w→F k J' v w)
 (step:Steps P ops Q F J0 A (X++Y) a0 w0 (X++Y))
 (fin: ∀Z∈subs Y,∀y w,Below w0.heap.size w0 w→∀J,(∀p,J0 p→J p)→(∀j∈A,∀p,y j= .pointer (some ⟨p,0,none⟩)→J p)→(∀p,J p→p<w.heap.size∧(J0 p∨w0.heap.size≤p))→(∀k∈X++Z,F k J (y k) w)→(∀j∈A,∀k∈A,j≠k→y j≠y k)→wpAnyH P .any ops Q S (ops.size - (X++Z).length) (lst ops (X++Z)) (mkA ops (X++Y) a0 y) w):
 wpAnyH P .any ops Q S ops.size (Array.replicate ops.size false) a0 w0:=by
 have h0: ∀k,(Array.replicate ops.size false).getD k false=false:=fun k=>by
  by_cases h:k<ops.size
  ·simp [h]
  ·simp [h]
 have e:mkA ops (X++Y) a0 (fun k=>a0.tmps.getD (dsts ops k) undef)=a0:=by
  unfold mkA;rw[XxW]
 have H:=XAL J0 X Y A F a0 w0 hSB hc hA hJ0 stable fresh self step fin ops.size (Array.replicate ops.size false) (fun k=>a0.tmps.getD (dsts ops k) undef) w0
  ⟨Below.refl _ _,Array.size_replicate,fun k _=>h0 k,fun k _ h=>(by rw[h0] at h;cases h),fun k _ h=>(by rw[h0] at h;cases h),fun j _ k _ _ h=>(by rw[h0] at h;cases h),by
   rw[List.filter_eq_nil_iff.2 (fun k _=>by rw[h0];decide)];rfl,fun j k h _=>(by rw[h0] at h;cases h)⟩
 rw[e] at H;exact H
theorem Xmb(L:List Nat)(i:Nat)(hi:i<ops.size)(d:Bool):(lst ops L).getD i d=L.contains i:=by
 unfold lst;simp [hi]
theorem XnJ(L:List Nat):(lst ops L).size=ops.size:=by unfold lst;simp
theorem XAM(X Y:List Nat)(p:Nat→Bool)(k:Nat)(hk:k∈Y):(lst ops (X++Y.filter p)).setIfInBounds k true=lst ops (X++Y.filter (fun i=>p i || i == k)):=by
 apply Array.ext_getElem?;intro i;by_cases hi:i<ops.size
 ·by_cases hki:k=i
  ·subst hki;unfold lst;simp [hi,hk]
  ·rw[Array.getElem?_setIfInBounds_ne hki];unfold lst;have a: ¬i=k:=fun e=>hki e.symm;simp [hi,a]
 ·rw[Array.getElem?_eq_none (by rw[Array.size_setIfInBounds,XnJ];omega),Array.getElem?_eq_none (by rw[XnJ];omega)]
theorem Xmc(L:List Nat)(hn:L.Nodup)(p:Nat→Bool)(k:Nat)(hk:k∈L)(h0:p k=false):(L.filter (fun i=>p i || i == k)).length=(L.filter p).length+1:=by
 induction L with
 | nil=>cases hk
 |
  cons j L ih=>
  rw[List.nodup_cons] at hn;by_cases hj:j=k
  ·subst hj;rw[List.filter_cons,List.filter_cons,h0];simp only[beq_self_eq_true,Bool.or_true,if_true,Bool.false_eq_true,if_false,List.length_cons];have:L.filter (fun i=>p i || i == j)=L.filter p:=List.filter_congr fun i hi=>by
    have:(i == j)=false:=beq_eq_false_iff_ne.2 (fun e=>hn.1 (e ▸ hi));rw[this,Bool.or_false]
   rw[this]
  ·have:=ih hn.2 ((List.mem_cons.1 hk).resolve_left (fun e=>hj e.symm));have a:(j == k)=false:=beq_eq_false_iff_ne.2 hj;rw[List.filter_cons,List.filter_cons,a,Bool.or_false]
   split
   ·rw[List.length_cons,List.length_cons,this]
   ·exact this
def chkY(ops:Array Oper)(X Y:List Nat):Bool:=
 Y.all (fun k=>((ops[k]?).map fun o=>o.after.all fun e=> !Region.binds .any e || X.contains e.on).getD false &&
  (List.range ops.size).all fun j=>X.contains j || j == k || ((ops[j]?).map fun o=>o.after.any fun e=>Region.binds .any e && e.on == k).getD true ||
   (((ops[k]?).bind fun ok=>(ops[j]?).map fun oj=>ok.apart ops oj).getD false)) &&
 (List.range ops.size).all (fun j=>((ops[j]?).map fun o=>match o.op with | .select _ _=>false | _=>true).getD true)
def Pures(P:Program)(ops:Array Oper)(F:Nat→(Nat→Prop)→Value→World→Prop)(L:List Nat)(a0:Act)(ks:List Nat):Prop:=
 ∀k∈ks,∀o,ops[k]? =some o→∀y w J,(∀j,Xbw ops k j=true→F j J (y j) w)→∃v,F k J v w∧Region.wanted o (yielded ops (mkA ops L a0 y).tmps)=true∧∀w',(execOp (mkA ops L a0 y).eval o).run P w'= .ok (.value v) w'
theorem Pures.nil{F:Nat→(Nat→Prop)→Value→World→Prop}{L:List Nat}{a0:Act} :Pures P ops F L a0 []:=fun _ h=>by cases h
theorem Pures.cons{F:Nat→(Nat→Prop)→Value→World→Prop}{L:List Nat}{a0:Act}{k:Nat}{ks:List Nat}{o:Oper}(ho:ops[k]? =some o)
 (h: ∀y w J,(∀j,Xbw ops k j=true→F j J (y j) w)→∃v,F k J v w∧Region.wanted o (yielded ops (mkA ops L a0 y).tmps)=true∧∀w',(execOp (mkA ops L a0 y).eval o).run P w'= .ok (.value v) w')
 (hs:Pures P ops F L a0 ks):Pures P ops F L a0 (k::ks):=fun j hj o' a=>by
 rcases List.mem_cons.1 hj with rfl | hj
 ·rw[ho] at a;cases a;exact h
 ·exact hs j hj o' a
theorem Xqd{Y:List Nat}(hn:Y.Nodup): ∀ {Z:List Nat},Z∈subs Y→Y.filter (fun i=>Z.contains i)=Z:=by
 induction Y with
 | nil=>intro Z h;simp [subs] at h;subst h;rfl
 |
  cons a Y ih=>
  rw[List.nodup_cons] at hn;have c: ∀ {Y Z:List Nat},Z∈subs Y→∀x∈Z,x∈Y:=by
   intro Y
   induction Y with
   | nil=>intro Z h x hx;simp [subs] at h;subst h;cases hx
   |
    cons b Y ih2=>
    intro Z h x hx;rw[subs,List.mem_append] at h;rcases h with h | h
    ·exact List.mem_cons_of_mem _ (ih2 h x hx)
    ·obtain⟨Z',h1,rfl⟩:=List.mem_map.1 h;rcases List.mem_cons.1 hx with rfl | hx
     ·exact List.mem_cons_self
     ·exact List.mem_cons_of_mem _ (ih2 h1 x hx)
  intro Z h;rw[subs,List.mem_append] at h;rcases h with h | h
  ·have ha:Z.contains a=false:=by
    rw[Bool.eq_false_iff];intro hc;exact hn.1 (c h a (List.contains_iff_mem.1 hc))
   rw[List.filter_cons,ha];simp only[Bool.false_eq_true,if_false];exact ih hn.2 h
  ·obtain⟨Z',h1,rfl⟩:=List.mem_map.1 h;have ha:(a::Z').contains a=true:=List.contains_iff_mem.2 List.mem_cons_self;rw[List.filter_cons,ha];simp only[if_true]
   congr 1
   rw[←ih hn.2 h1];refine List.filter_congr fun i hi=>?_;have: ¬i=a:=fun e=>hn.1 (e ▸ hi);rw[ih hn.2 h1];simp [this]
theorem late{S:World→Prop}(J0:Nat→Prop)(X Y A:List Nat)(F:Nat→(Nat→Prop)→Value→World→Prop)(a0:Act)(w0:World)(hSB: ∀w',Below w0.heap.size w0 w'→S w')(hc:chk ops X Y=true)(hcY:chkY ops X Y=true)(hA: ∀k∈A,k∈X)
 (hQ: ∀c a d v w,Q (.panic c) (Act.put a d v) w→Q (.panic c) a w)
 (pure:Pures P ops F (X++Y) a0 Y)
 (fin: ∀y w,Below w0.heap.size w0 w→∀J,(∀p,J0 p→J p)→(∀j∈A,∀p,y j= .pointer (some ⟨p,0,none⟩)→J p)→(∀p,J p→p<w.heap.size∧(J0 p∨w0.heap.size≤p))→(∀k∈X++Y,F k J (y k) w)→(∀j∈A,∀k∈A,j≠k→y j≠y k)→wpAnyH P .any ops Q S (ops.size - (X++Y).length) (lst ops (X++Y)) (mkA ops (X++Y) a0 y) w):
 ∀ (n:Nat) (p:Nat→Bool),(Y.filter p).length+n=Y.length→∀y w,Below w0.heap.size w0 w→∀J,(∀p,J0 p→J p)→(∀j∈A,∀p,y j= .pointer (some ⟨p,0,none⟩)→J p)→(∀p,J p→p<w.heap.size∧(J0 p∨w0.heap.size≤p))→(∀k∈X++Y.filter p,F k J (y k) w)→(∀j∈A,∀k∈A,j≠k→y j≠y k)→wpAnyH P .any ops Q S (ops.size - (X++Y.filter p).length) (lst ops (X++Y.filter p)) (mkA ops (X++Y) a0 y) w:=by
 unfold chk at hc;simp only[Bool.and_eq_true,decide_eq_true_eq,List.all_eq_true] at hc;obtain⟨⟨⟨⟨hn,D⟩,U⟩,hX⟩,a1⟩:=hc;unfold chkY at hcY;simp only[Bool.and_eq_true,List.all_eq_true] at hcY;obtain⟨hY,I⟩:=hcY;intro n
 induction n with
 |
  zero=>
  intro p hp y w hb J t u x hF z;have e:Y.filter p=Y:=by
   have h1:(Y.filter p).length=Y.length:=by omega
   exact List.filter_eq_self.2 (List.length_filter_eq_length_iff.1 h1)
  rw[e] at hF ⊢;exact fin y w hb J t u x hF z
 |
  succ n ih=>
  intro p hp y w hb J t u x hF z;obtain⟨k,hk,q⟩:=List.length_filter_lt_length_iff_exists.1 (show (Y.filter p).length<Y.length by omega);replace q:p k=false:=by simpa using q
  have r:k ∉ X:=fun h=>(List.nodup_append.1 D).2.2 k h k hk rfl;obtain⟨⟨h1,h2⟩,h3⟩:=hX k (List.mem_append_right _ hk);obtain⟨f,L⟩:=hY k hk;cases ho:ops[k]? with
  | none=>rw[ho] at h3;cases h3
  |
   some o=>
   rw[ho] at h2 f;simp only[Option.bind_some] at h2;simp only[Option.map_some,Option.getD_some,Array.all_eq_true_iff_forall_mem] at f;obtain⟨d,hd⟩:=Option.isSome_iff_exists.1 h2;have N:dsts ops k=d:=by unfold dsts;rw[ho];simp [hd]
   obtain⟨v,K,B,s⟩:=pure k hk o ho y w J (fun j hj=>by
    unfold Xbw at hj;rw[ho] at hj;simp only[Option.map_some,Option.getD_some,←Array.any_toList,List.any_eq_true] at hj;obtain⟨e,he,hj⟩:=hj;rw[Array.mem_toList_iff] at he;rw[Bool.and_eq_true] at hj;have h2:e.on=j:=beq_iff_eq.1 hj.2;have h4:=f e he;rw[hj.1] at h4;simp only[Bool.not_true,Bool.false_or,List.contains_iff_mem] at h4;rw[←h2];exact hF _ (List.mem_append_left _ h4))
   have W:=Xmc Y (List.nodup_append.1 D).2.1 p k hk q;have G:(mkA ops (X++Y) a0 y).put o.dst v=mkA ops (X++Y) a0 (upd y k v):=by
    rw[hd,←N];unfold mkA Act.put;simp only
    rw[XuH y (X++Y) hn k (List.mem_append_right _ hk) v]
   have g: ∀j,j≠k→upd y k v j=y j:=fun j hj=>if_neg hj;have H:=ih (fun i=>p i || i == k) (by omega) (upd y k v) w hb J t (fun j hj p e=>u j hj p (by rw[g j (fun e=>r (e ▸ hA j hj))] at e;exact e)) x (fun j hj=>by
    by_cases m:j=k
    ·subst m;unfold upd;rw[if_pos rfl];exact K
    ·rw[g j m];refine hF j ?_;rcases List.mem_append.1 hj with h | h
     ·exact List.mem_append_left _ h
     ·refine List.mem_append_right _ (List.mem_filter.2 ⟨(List.mem_filter.1 h).1,?_⟩);have:=(List.mem_filter.1 h).2;simpa [m] using this) (fun i hi j hj R=>by
    rw[g i (fun e=>r (e ▸ hA i hi)),g j (fun e=>r (e ▸ hA j hj))];exact z i hi j hj R)
   rw[←XAM X Y p k hk,←G] at H;have a2:(X++Y.filter p).length+1≤ops.size:=by
    rw[List.length_append] at U ⊢;omega
   have O:ops.size - (X++Y.filter p).length=(ops.size - (X++Y.filter (fun i=>p i || i == k)).length)+1:=by
    rw[List.length_append,List.length_append] at *
    omega
   rw[O];have V:(lst ops (X++Y.filter p)).getD k true=false:=by
    rw[Xmb _ _ h1,Bool.eq_false_iff];intro hc;rcases List.mem_append.1 (List.contains_iff_mem.1 hc) with h | h
    ·exact r h
    ·rw[(List.mem_filter.1 h).2] at q;cases q
   refine wpAnyH_first ho (fun j o' cs b hj he=>?_) (fun c a w=>hQ c a _ _ w) _ _ _ _ (fun j oj E m C T=>?_) ?_ (Or.inl ⟨B,fun w' _=>s w'⟩) (hSB _ hb) H
   ·have l:j<ops.size:=(Array.getElem?_eq_some_iff.1 hj).1;have:=I j (List.mem_range.2 l);rw[hj] at this;simp only[Option.map_some,Option.getD_some,he] at this;cases this
   ·have l:j<ops.size:=(Array.getElem?_eq_some_iff.1 E).1;have h5:=L j (List.mem_range.2 l);rw[E,ho] at h5;simp only[Option.map_some,Option.getD_some,Option.bind_some,Bool.or_eq_true,beq_iff_eq,List.contains_iff_mem,←Array.any_toList,List.any_eq_true] at h5;rcases h5 with((h5 | h5) | h5) | h5
    ·rw[Xmb _ _ l,List.contains_iff_mem.2 (List.mem_append_left _ h5)] at C;cases C
    ·exact absurd h5 m
    ·exfalso;obtain⟨e,he,h6⟩:=h5;rw[Array.mem_toList_iff] at he;rw[Bool.and_eq_true] at h6;exact T e he h6.1 (beq_iff_eq.1 h6.2)
    ·exact h5
   ·refine mem_ready.2 ⟨V,o,ho,fun e he M=>?_⟩;have h4:=f e he;rw[M] at h4;simp only[Bool.not_true,Bool.false_or,List.contains_iff_mem] at h4;have l:e.on<ops.size:=by
     obtain⟨⟨h5,_⟩,_⟩:=hX e.on (List.mem_append_left _ h4);exact h5
    rw[Xmb _ _ l];exact List.contains_iff_mem.2 (List.mem_append_left _ h4)
theorem Xqe{S:World→Prop}(J0:Nat→Prop)(X Y A:List Nat)(F:Nat→(Nat→Prop)→Value→World→Prop)(a0:Act)(w0:World)(hSB: ∀w',Below w0.heap.size w0 w'→S w')(hc:chk ops X Y=true)(hcY:chkY ops X Y=true)(hA: ∀k∈A,k∈X)
 (hQ: ∀c a d v w,Q (.panic c) (Act.put a d v) w→Q (.panic c) a w)
 (hJ0: ∀p,J0 p→p<w0.heap.size) (stable: ∀k J v w w',F k J v w→Below w.heap.size w w'→F k J v w')
 (fresh: ∀k J v w p,F k J v w→w.heap.size≤p→F k (fun j=>J j∨j=p) v w) (self: ∀k∈A,∀J J' v w,F k J v w→F k J' v w)
 (step:Steps P ops Q F J0 A (X++Y) a0 w0 (X++Y))
 (pure:Pures P ops F (X++Y) a0 Y)
 (fin: ∀y w,Below w0.heap.size w0 w→∀J,(∀p,J0 p→J p)→(∀j∈A,∀p,y j= .pointer (some ⟨p,0,none⟩)→J p)→(∀p,J p→p<w.heap.size∧(J0 p∨w0.heap.size≤p))→(∀k∈X++Y,F k J (y k) w)→(∀j∈A,∀k∈A,j≠k→y j≠y k)→wpAnyH P .any ops Q S (ops.size - (X++Y).length) (lst ops (X++Y)) (mkA ops (X++Y) a0 y) w):
 wpAnyH P .any ops Q S ops.size (Array.replicate ops.size false) a0 w0:=by
 refine XuJ J0 X Y A F a0 w0 hSB hc hA hJ0 stable fresh self step (fun Z hZ y w hb J b e f hF h=>?_);have g:(X++Y).Nodup:=by
  unfold chk at hc;simp only[Bool.and_eq_true,decide_eq_true_eq] at hc;exact hc.1.1.1.2
 have hz:=Xqd (List.nodup_append.1 g).2.1 hZ;have l:Z.length≤Y.length:=by rw[←hz];exact List.length_filter_le _ _
 have H:=late J0 X Y A F a0 w0 hSB hc hcY hA hQ pure fin (Y.length - Z.length) (fun i=>Z.contains i) (by rw[hz];omega) y w hb J b e f (by rw[hz];exact hF) h;rw[hz] at H;exact H
theorem XGu{S:World→Prop}{id:Nat}{w:World}(J0:Nat→Prop)(X Y A:List Nat)(F:Nat→(Nat→Prop)→Value→World→Prop)(a0:Act)(hSB: ∀w',Below w.drew.heap.size w.drew w'→S w')(hm:P.follows .mixedOrders=true)(hc:chk ops X Y=true)(hcY:chkY ops X Y=true)(hA: ∀k∈A,k∈X)
 (hQ: ∀c a d v w,Q (.panic c) (Act.put a d v) w→Q (.panic c) a w)
 (hJ0: ∀p,J0 p→p<w.drew.heap.size) (stable: ∀k J v w w',F k J v w→Below w.heap.size w w'→F k J v w')
 (fresh: ∀k J v w p,F k J v w→w.heap.size≤p→F k (fun j=>J j∨j=p) v w) (self: ∀k∈A,∀J J' v w,F k J v w→F k J' v w)
 (step:Steps P ops Q F J0 A (X++Y) a0 w.drew (X++Y))
 (pure:Pures P ops F (X++Y) a0 Y)
 (fin: ∀y w1,Below w.drew.heap.size w.drew w1→∀J,(∀p,J0 p→J p)→(∀j∈A,∀p,y j= .pointer (some ⟨p,0,none⟩)→J p)→(∀p,J p→p<w1.heap.size∧(J0 p∨w.drew.heap.size≤p))→(∀k∈X++Y,F k J (y k) w1)→(∀j∈A,∀k∈A,j≠k→y j≠y k)→wpAnyH P .any ops Q S (ops.size - (X++Y).length) (lst ops (X++Y)) (mkA ops (X++Y) a0 y) w1):
 (Code.region id ops true).wp P Q a0 w:=wp_region_held hm (Xqe J0 X Y A F a0 w.drew hSB hc hcY hA hQ hJ0 stable fresh self step pure fin)
theorem X3b{id:Nat}{w:World}(J0:Nat→Prop)(X Y A:List Nat)(F:Nat→(Nat→Prop)→Value→World→Prop)(a0:Act)(hm:P.follows .mixedOrders=true)(hc:chk ops X Y=true)(hcY:chkY ops X Y=true)(hA: ∀k∈A,k∈X)
 (hQ: ∀c a d v w,Q (.panic c) (Act.put a d v) w→Q (.panic c) a w)
 (hJ0: ∀p,J0 p→p<w.drew.heap.size) (stable: ∀k J v w w',F k J v w→Below w.heap.size w w'→F k J v w')
 (fresh: ∀k J v w p,F k J v w→w.heap.size≤p→F k (fun j=>J j∨j=p) v w) (self: ∀k∈A,∀J J' v w,F k J v w→F k J' v w)
 (step:Steps P ops Q F J0 A (X++Y) a0 w.drew (X++Y))
 (pure:Pures P ops F (X++Y) a0 Y)
 (fin: ∀y w1,Below w.drew.heap.size w.drew w1→∀J,(∀p,J0 p→J p)→(∀j∈A,∀p,y j= .pointer (some ⟨p,0,none⟩)→J p)→(∀p,J p→p<w1.heap.size∧(J0 p∨w.drew.heap.size≤p))→(∀k∈X++Y,F k J (y k) w1)→(∀j∈A,∀k∈A,j≠k→y j≠y k)→wpAnyH P .any ops Q (fun w'=>Below w.drew.heap.size w.drew w') (ops.size - (X++Y).length) (lst ops (X++Y)) (mkA ops (X++Y) a0 y) w1):
 (Code.region id ops true).wp P Q a0 w:=XGu J0 X Y A F a0 (fun _ h=>h) hm hc hcY hA hQ hJ0 stable fresh self step pure fin
def mkL(L:List (Nat × Nat))(a0:Act)(y:Nat→Value):Act:= { a0 with tmps:=L.foldl (fun t p=>t.setIfInBounds p.2 (y p.1)) a0.tmps }
theorem X0q(L:List Nat)(M:List (Nat × Nat))(h:L.map (fun k=>(k,dsts ops k))=M)(a0:Act)(y:Nat→Value):mkA ops L a0 y=mkL M a0 y:=by
 subst h;unfold mkA mkL mkT;rw[List.foldl_map]
theorem mkE:(∀ (L:List (Nat × Nat)) (a0:Act) (y:Nat→Value),mkL L a0 y= { a0 with tmps:=L.foldl (fun t p=>t.setIfInBounds p.2 (y p.1)) a0.tmps })∧(∀ {α β:Type} (f:α→β→α) (a:α) (b:β) (l:List β),List.foldl f a (b::l)=List.foldl f (f a b) l)∧(∀ {α β:Type} (f:α→β→α) (a:α),List.foldl f a []=a)∧(∀ {α:Type} (l:List α) (i:Nat) (x:α),l.toArray.setIfInBounds i x=(l.set i x).toArray)∧(∀ {α:Type} (x y:α) (l:List α),(x::l).set 0 y=y::l)∧(∀ {α:Type} (x y:α) (l:List α) (i:Nat),(x::l).set (i+1) y=x::l.set i y):=
 ⟨fun _ _ _=>rfl,fun _ _ _ _=>rfl,fun _ _=>rfl,fun _ _ _=>by simp,fun _ _ _=>rfl,fun _ _ _ _=>rfl⟩
end RgA
open Go.RowKit Go.Lib
def setL(w:World)(k:Nat):Nat→List Value→World
 | _,[]=>w
 | i,v::l=>setL (w.setCell ⟨k,i,none⟩ v) k (i+1) l
def setA(cs:Array Value):Nat→List Value→Array Value
 | _,[]=>cs
 | i,v::l=>setA (cs.setIfInBounds i v) (i+1) l
theorem X1q{k:Nat}{T:TypeId}(l:List Value): ∀ {w:World} {cs:Array Value} {i:Nat},Blk w k cs T→Blk (setL w k i l) k (setA cs i l) T:=by
 induction l with
 | nil=>intro w cs i h;exact h
 | cons v l ih=>intro w cs i h;exact ih (X0I h i v)
theorem X0K{k j:Nat}{cs:Array Value}{T:TypeId}(l:List Value)(hne:k≠j): ∀ {w:World} {i:Nat},Blk w j cs T→Blk (setL w k i l) j cs T:=by
 induction l with
 | nil=>intro w i h;exact h
 |
  cons v l ih=>
  intro w i h;refine ih ?_;unfold Blk at *
  rw[heap_setCell_other _ ⟨k,i,none⟩ j v (fun e=>hne e.symm)];exact h
theorem X0r{J:Nat→Prop}{k:Nat}(hk:J k)(l:List Value): ∀ (w:World) (i:Nat),X4l J w (setL w k i l):=by
 induction l with
 | nil=>intro w i;exact Xro J w
 | cons v l ih=>intro w i;exact X1m (X1T w ⟨k,i,none⟩ v hk) (ih _ _)
theorem X13{n k:Nat}(l:List Value)(hk:n≤k): ∀ {w w1:World} {i:Nat},Below n w w1→Below n w (setL w1 k i l):=by
 induction l with
 | nil=>intro w w1 i h;exact h
 | cons v l ih=>intro w w1 i h;exact ih (h.setCell (p:=⟨k,i,none⟩) hk v)
open Go Go.RowKit Go.Lib
structure Vx (P:Program) (T:TypeId) (X:Array Value):Prop where
 und: ∃d,P.underlying T=some d∧d.isRow=true
 size:(P.info? T).map (·.size)=some X.size
 one:X.all (·.oneCell')=true
structure Bx (P:Program) (w:World) (k:Nat) (X:Array Value) (T:TypeId):Prop where
 blk:Blk w k X T
 v:Vx P T X
theorem XFb{P:Program}{T:TypeId}{X:Array Value}(h:Vx P T X)(w:World):Bx P (w.alloc (.cells X T)) w.heap.size X T:=⟨X0g w X T,h⟩
theorem bx_at{P:Program}{T:TypeId}{X:Array Value}{w:World}{k:Nat}(hk:w.heap.size=k)(h:Vx P T X):Bx P (w.alloc (.cells X T)) k X T:=hk ▸ XFb h w
theorem XFa{P:Program}{w w1:World}{k:Nat}{X:Array Value}{T:TypeId}(h:Bx P w k X T)(hb:Below w.heap.size w w1):Bx P w1 k X T:=⟨X02 h.blk hb,h.v⟩
theorem XFe{P:Program}{w:World}{k:Nat}{X:Array Value}{T:TypeId}(h:Bx P w k X T)(i:Nat)(v:Value)(hv:X[i]? =some v):w.cell? ⟨k,i,none⟩=some v:=X00 h.blk i v hv
structure Put (w:World) (k:Nat) (Y:Array Value) (T:TypeId) (w1:World):Prop where
 blk:Blk w1 k Y T
 only:X4l (fun j=>j=k) w w1
 size:w1.heap.size=w.heap.size
 below: ∀n w0,n≤k→Below n w0 w→Below n w0 w1
theorem XFg{P:Program}{w w1:World}{k:Nat}{Y:Array Value}{T:TypeId}(h:Put w k Y T w1)(hv:Vx P T Y):Bx P w1 k Y T:=⟨h.blk,hv⟩
theorem XFh{P:Program}{w w1:World}{k j:Nat}{Y X:Array Value}{T U:TypeId}(h:Bx P w j X U)(hp:Put w k Y T w1)(hne:j≠k):Bx P w1 j X U:=
 ⟨by have:=hp.only.2 j (X1h h.blk) hne;have hb:=h.blk;unfold Blk at *;rw[this];exact hb,h.v⟩
theorem XFf{J:Nat→Prop}{w w1:World}{k:Nat}{Y:Array Value}{T:TypeId}(h:Put w k Y T w1)(hk:J k):X4l J w w1:=⟨h.only.1,fun j hj hJ=>h.only.2 j hj fun e=>hJ (e ▸ hk)⟩
theorem XFc{P:Program}{w:World}{k:Nat}{X Y:Array Value}{T:TypeId}(h:Bx P w k X T)(hY:Vx P T Y): ∃w1,Put w k Y T w1∧(storeVar T ⟨k,0,none⟩ (.agg Y)).run P w= .ok () w1:=by
 have hs:X.size=Y.size:=by have:=h.v.size.symm.trans hY.size;simpa using this
 refine⟨w.setRow k Y,⟨setRow_heap w k X Y T (0,0) h.blk,⟨by simp,fun j hj hJ=>setRow_other w k j Y hJ⟩,by simp,fun n w0 hn hb=>below_setRow hb hn Y⟩,?_⟩;exact run_storeVar_row w k T T X Y h.blk hY.size hs hY.one
theorem XFd{P:Program}{w:World}{k:Nat}{X:Array Value}{T:TypeId}(h:Bx P w k X T):(loadVar T ⟨k,0,none⟩).run P w= .ok (.agg X) w:=by
 obtain⟨d,hu,hd⟩:=h.v.und;have hr:w.rangeAt k 0 X.toList:=fun j v hv=>by rw[Nat.zero_add];exact X00 h.blk j v (by simpa using hv)
 have:=run_loadVar_mid (P:=P) w k 0 T X.toList d hr hu hd (by simpa using h.v.size);simpa using this
theorem XGO{P:Program}{ops:Array Oper}{rest:List Oper}{op:Oper}{a:Act}{w:World}{Q:Exit→Act→World→Prop}(hg:Region.wanted op (yielded ops a.tmps)=true)(h: ∀K:Act→World→Prop,(∀a w,wpList P ops Q rest a w→K a w)→op.wp P a w K Q):wpList P ops Q (op::rest) a w:=by
 unfold wpList;rw[if_pos hg];exact .inl (h _ fun _ _ h=>h)
theorem ldX{P:Program}{ops:Array Oper}{rest:List Oper}{op:Oper}{a:Act}{w:World}{Q:Exit→Act→World→Prop}{k:Nat}{X:Array Value}{T:TypeId}{x:Operand}(hb:Bx P w k X T)
 (h:wpList P ops Q rest (a.put op.dst (.agg X)) w) (hgd:Region.wanted op (yielded ops a.tmps)=true:=by rfl) (ho:op.op= .load T x:=by rfl) (hx:a.eval x= .pointer (some ⟨k,0,none⟩):=by rfl):wpList P ops Q (op::rest) a w:=
 by
  refine XGO hgd fun K hK=>?_;unfold Oper.wp execOp;simp only[ho,hx,Instr.loadAt,Instr.sureAddr,Sem.run_bind,Sem.run_pure,Result.andThen_ok,XFd hb];exact hK _ _ h
theorem XFs{P:Program}{w:World}{k:Nat}{X Y:Array Value}{T U:TypeId}(h:Bx P w k X T)(o:Nat)(hU:Vx P U Y)(hY:Y=X.extract o (o+Y.size)):(loadVar U ⟨k,o,none⟩).run P w= .ok (.agg Y) w:=by
 obtain⟨d,hu,hd⟩:=hU.und;have hr:w.rangeAt k o Y.toList:=fun j v hv=>by
  refine X00 h.blk (o+j) v ?_;rw[hY] at hv;simp only[Array.getElem?_toList,Array.getElem?_extract] at hv
  split at hv
  ·exact hv
  ·cases hv
 have:=run_loadVar_mid (P:=P) w k o U Y.toList d hr hu hd (by simpa using hU.size);simpa using this
theorem ldM{P:Program}{ops:Array Oper}{rest:List Oper}{op:Oper}{a:Act}{w:World}{Q:Exit→Act→World→Prop}{k:Nat}{X Y:Array Value}{T U:TypeId}{x:Operand}(hb:Bx P w k X T)(o:Nat)(hU:Vx P U Y)(hY:Y=X.extract o (o+Y.size))
 (h:wpList P ops Q rest (a.put op.dst (.agg Y)) w) (hgd:Region.wanted op (yielded ops a.tmps)=true:=by rfl) (ho:op.op= .load U x:=by rfl) (hx:a.eval x= .pointer (some ⟨k,o,none⟩):=by rfl):wpList P ops Q (op::rest) a w:=
 by
  refine XGO hgd fun K hK=>?_;unfold Oper.wp execOp;simp only[ho,hx,Instr.loadAt,Instr.sureAddr,Sem.run_bind,Sem.run_pure,Result.andThen_ok,XFs hb o hU hY];exact hK _ _ h
theorem stX{P:Program}{ops:Array Oper}{rest:List Oper}{op:Oper}{a:Act}{w:World}{Q:Exit→Act→World→Prop}{k:Nat}{X Y:Array Value}{T:TypeId}{x y:Operand}(hb:Bx P w k X T)(hY:Vx P T Y)
 (h: ∀w1,Put w k Y T w1→wpList P ops Q rest a w1) (hgd:Region.wanted op (yielded ops a.tmps)=true:=by rfl) (hd:op.dst=none:=by rfl) (ho:op.op= .store T x y:=by rfl) (hx:a.eval x= .pointer (some ⟨k,0,none⟩):=by rfl) (hy:a.eval y= .agg Y:=by rfl):wpList P ops Q (op::rest) a w:=
 by
  refine XGO hgd fun K hK=>?_;obtain⟨w1,h1,h2⟩:=XFc hb hY;unfold Oper.wp execOp;simp only[ho,hx,hy,Instr.storeAt,Instr.sureAddr,Sem.run_bind,Sem.run_pure,Result.andThen_ok,h2];refine hK _ _ ?_;rw[hd];exact h w1 h1
theorem tkL{P:Program}{md:Region.Mode}{ops:Array Oper}{Q:Exit→Act→World→Prop}{S:World→Prop}{fuel:Nat}{listed:Array Bool}{a:Act}{w:World}(i:Nat){x0:Option Tmp}{x2:TypeId}{x3:String}{x4:Array Edge}{x5:Option (Nat × Bool)}{T:TypeId}{x:Operand}{k:Nat}{X:Array Value}(hi:ops[i]? =some ⟨x0, .load T x,x2,x3,x4,x5⟩)(hk: ∀w,S w→Bx P w k X T)(hS:S w)
 (h:wpAnyH P md ops Q S fuel (listed.setIfInBounds i true) (a.put x0 (.agg X)) w)
 (hx:a.eval x= .pointer (some ⟨k,0,none⟩):=by rfl)
 (hg:Region.wanted ⟨x0, .load T x,x2,x3,x4,x5⟩ (yielded ops a.tmps)=true:=by rfl)
 (hs:Region.noSelect ops=true:=by kernel_rfl) (hf:Region.free md ops listed i=true:=by kernel_rfl) (hr:(Region.ready md ops listed).contains i=true:=by kernel_rfl)
 (hQ: ∀c a w,Q (.panic c) (a.put x0 (.agg X)) w→Q (.panic c) a w:=by exact fun _ _ _ h=>h):wpAnyH P md ops Q S (fuel+1) listed a w:=
 wpAnyH_take hi hs hf hr hQ (.inl ⟨hg,fun w hw=>by
  unfold execOp;simp only[hx,Instr.loadAt,Instr.sureAddr,Sem.run_bind,Sem.run_pure,Result.andThen_ok,XFd (hk w hw)]⟩) hS h
theorem tkM{P:Program}{md:Region.Mode}{ops:Array Oper}{Q:Exit→Act→World→Prop}{S:World→Prop}{fuel:Nat}{listed:Array Bool}{a:Act}{w:World}(i:Nat){x0:Option Tmp}{x2:TypeId}{x3:String}{x4:Array Edge}{x5:Option (Nat × Bool)}{T U:TypeId}{x:Operand}{k:Nat}{X Y:Array Value}(hi:ops[i]? =some ⟨x0, .load U x,x2,x3,x4,x5⟩)(hk: ∀w,S w→Bx P w k X T)(o:Nat)(hU:Vx P U Y)(hY:Y=X.extract o (o+Y.size))(hS:S w)
 (h:wpAnyH P md ops Q S fuel (listed.setIfInBounds i true) (a.put x0 (.agg Y)) w)
 (hx:a.eval x= .pointer (some ⟨k,o,none⟩):=by rfl)
 (hg:Region.wanted ⟨x0, .load U x,x2,x3,x4,x5⟩ (yielded ops a.tmps)=true:=by rfl)
 (hs:Region.noSelect ops=true:=by kernel_rfl) (hf:Region.free md ops listed i=true:=by kernel_rfl) (hr:(Region.ready md ops listed).contains i=true:=by kernel_rfl)
 (hQ: ∀c a w,Q (.panic c) (a.put x0 (.agg Y)) w→Q (.panic c) a w:=by exact fun _ _ _ h=>h):wpAnyH P md ops Q S (fuel+1) listed a w:=
 wpAnyH_take hi hs hf hr hQ (.inl ⟨hg,fun w hw=>by
  unfold execOp;simp only[hx,Instr.loadAt,Instr.sureAddr,Sem.run_bind,Sem.run_pure,Result.andThen_ok,XFs (hk w hw) o hU hY]⟩) hS h
theorem tkS{P:Program}{md:Region.Mode}{ops:Array Oper}{Q:Exit→Act→World→Prop}{S:World→Prop}{fuel:Nat}{listed:Array Bool}{a:Act}{w:World}(i:Nat){x2:TypeId}{x3:String}{x4:Array Edge}{x5:Option (Nat × Bool)}{T:TypeId}{x y:Operand}{k:Nat}{X Y:Array Value}(hi:ops[i]? =some ⟨none, .store T x y,x2,x3,x4,x5⟩)(hb:Bx P w k X T)(hY:Vx P T Y)
 (h: ∀w1,Put w k Y T w1→S w1∧wpAnyH P md ops Q S fuel (listed.setIfInBounds i true) a w1)
 (hx:a.eval x= .pointer (some ⟨k,0,none⟩):=by rfl) (hy:a.eval y= .agg Y:=by rfl)
 (hg:Region.wanted ⟨none, .store T x y,x2,x3,x4,x5⟩ (yielded ops a.tmps)=true:=by rfl)
 (hr:Region.ready md ops listed= [i]:=by kernel_rfl):wpAnyH P md ops Q S (fuel+1) listed a w:=
 rdy i hi (fun K hK=>by
  rw[if_pos hg];obtain⟨w1,h1,h2⟩:=XFc hb hY;obtain⟨h3,h4⟩:=h w1 h1;unfold Oper.wp execOp;simp only[hx,hy,Instr.storeAt,Instr.sureAddr,Sem.run_bind,Sem.run_pure,Result.andThen_ok,h2];exact hK.out _ _ h3 (fun _=>h4)) hr
theorem opX{P:Program}{ops:Array Oper}{rest:List Oper}{op:Oper}{a:Act}{w:World}{Q:Exit→Act→World→Prop}{v:Value}(h1:(execOp a.eval op).run P w= .ok (.value v) w)(h:wpList P ops Q rest (a.put op.dst v) w)(hgd:Region.wanted op (yielded ops a.tmps)=true:=by rfl):wpList P ops Q (op::rest) a w:=
 by
  refine XGO hgd fun K hK=>?_;unfold Oper.wp;rw[h1];exact hK _ _ h
theorem tkO{P:Program}{md:Region.Mode}{ops:Array Oper}{Q:Exit→Act→World→Prop}{S:World→Prop}{fuel:Nat}{listed:Array Bool}{a:Act}{w:World}{v:Value}(i:Nat){o:Oper}(hi:ops[i]? =some o)(h1: ∀w,(execOp a.eval o).run P w= .ok (.value v) w)(hS:S w)
 (h:wpAnyH P md ops Q S fuel (listed.setIfInBounds i true) (a.put o.dst v) w)
 (hg:Region.wanted o (yielded ops a.tmps)=true:=by rfl)
 (hs:Region.noSelect ops=true:=by kernel_rfl) (hf:Region.free md ops listed i=true:=by kernel_rfl) (hr:(Region.ready md ops listed).contains i=true:=by kernel_rfl)
 (hQ: ∀c a w,Q (.panic c) (a.put o.dst v) w→Q (.panic c) a w:=by exact fun _ _ _ h=>h):wpAnyH P md ops Q S (fuel+1) listed a w:=
 wpAnyH_take hi hs hf hr hQ (.inl ⟨hg,fun w _=>h1 w⟩) hS h
theorem nine{M:Array Value}(h:M.size=9): ∃a b c d e f g i j,M= #[a,b,c,d,e,f,g,i,j]:=by
 obtain⟨l⟩:=M;simp at h
 match l,h with
 | [a,b,c,d,e,f,g,i,j],_=>exact⟨a,b,c,d,e,f,g,i,j,rfl⟩
theorem res1{P:Program}{fn:Func}{tmps:Array Value}{w:World}{p k:Nat}{T:TypeId}{X:Array Value}(hb:Bx P w k X T)(h:fn.results= #[.cell p T]:=by rfl)(hp:tmps.getD p undef= .pointer (some ⟨k,0,none⟩):=by rfl):(results fn tmps).run P w= .ok (.agg X) w:=by
 simp only[results,h];simp only[Array.getD_eq_getD_getElem?] at hp;simp [Sem.run_bind,Result.andThen,hp,asAddr,XFd hb]
theorem res4{P:Program}{fn:Func}{tmps:Array Value}{w:World}{p q r u k l m:Nat}{T U V:TypeId}{X Y Z:Array Value}{v:Value}(hb:Bx P w k X T)(hc:Bx P w l Y U)(hd:Bx P w m Z V)(h:fn.results= #[.cell p T, .cell q U, .cell r V, .tmp u]:=by rfl)
 (hp:tmps.getD p undef= .pointer (some ⟨k,0,none⟩):=by rfl) (hq:tmps.getD q undef= .pointer (some ⟨l,0,none⟩):=by rfl) (hr:tmps.getD r undef= .pointer (some ⟨m,0,none⟩):=by rfl) (hu:tmps.getD u undef=v:=by rfl):(results fn tmps).run P w= .ok (.tuple #[.agg X, .agg Y, .agg Z,v]) w:=by
 simp only[results,h];simp only[Array.getD_eq_getD_getElem?] at hp hq hr hu;simp [Sem.run_bind,Result.andThen,hp,hq,hr,asAddr,XFd hb,XFd hc,XFd hd,hu]
def putL(X:Array Value):Nat→List Value→Array Value
 | _,[]=>X
 | i,v::l=>putL (X.setIfInBounds i v) (i+1) l
theorem XGd{k:Nat}{T:TypeId}(l:List Value): ∀ {w:World} {X:Array Value} {i:Nat},Blk w k X T→Blk (w.setCells k i l) k (putL X i l) T∧X4l (fun j=>j=k) w (w.setCells k i l)∧(w.setCells k i l).heap.size=w.heap.size∧∀n w0,n≤k→Below n w0 w→Below n w0 (w.setCells k i l):=by
 induction l with
 | nil=>intro w X i h;exact⟨h,Xro _ w,rfl,fun _ _ _ h=>h⟩
 |
  cons v l ih=>
  intro w X i h;have h1:Blk (w.setCell ⟨k,i,none⟩ v) k (X.setIfInBounds i v) T:=by
   have:=heap_setCell_same w k i X T v h;unfold Blk;simpa using this
  obtain⟨a,b,c,d⟩:=ih (i:=i+1) h1;exact⟨a,X1m (X1T w ⟨k,i,none⟩ v rfl) b,by rw[World.setCells,c];simp,fun n w0 hn hb=>d n w0 hn (hb.setCell (p:=⟨k,i,none⟩) hn v)⟩
theorem XGc{P:Program}{w:World}{k:Nat}{X Y:Array Value}{T U:TypeId}(h:Bx P w k X T)(o:Nat)(ho:o+Y.size≤X.size)(hi:(P.info? U).map (·.size)=some Y.size)(h1:Y.all (·.oneCell')=true)(v:Value)(hv:v.cells=Y): ∃w1,Put w k (putL X o Y.toList) T w1∧(storeVar U ⟨k,o,none⟩ v).run P w= .ok () w1:=by
 obtain⟨a,b,c,d⟩:=XGd (i:=o) Y.toList h.blk;refine⟨_,⟨a,b,c,d⟩,?_⟩;have hc: ∀j,j<Y.size→(w.cell? ⟨k,o+0+j,none⟩).isSome=true∧w.frozen? ⟨k,o+0+j,none⟩=false:=fun j hj=>by
  have e:o+0+j<X.size:=by omega
  exact⟨by rw[X00 h.blk (o+0+j) _ (Array.getElem?_eq_getElem e)];rfl,X06 h.blk _⟩
 have:=run_storeCells_cells (P:=P) k o Y.toList 0 w (fun j hj=>(hc j (by simpa using hj)).1) (fun j hj=>(hc j (by simpa using hj)).2) (fun v hv=>(Array.all_eq_true_iff_forall_mem.1 h1) v (by simpa using hv));cases hq:P.info? U with
 | none=>simp [hq] at hi
 |
  some i=>
  have hs:Y.size=i.size:=by simp [hq] at hi;omega
  simp only[Nat.add_zero] at this;simp [storeVar,sizeOf,typeInfo,hq,hv,hs,this]
theorem stM{P:Program}{ops:Array Oper}{rest:List Oper}{op:Oper}{a:Act}{w:World}{Q:Exit→Act→World→Prop}{k:Nat}{X Y:Array Value}{T U:TypeId}{x y:Operand}(hb:Bx P w k X T)(o:Nat)(hU:Vx P U Y)(ho':o+Y.size≤X.size){Z:Array Value}(hZ:putL X o Y.toList=Z)
 (h: ∀w1,Put w k Z T w1→wpList P ops Q rest a w1) (hgd:Region.wanted op (yielded ops a.tmps)=true:=by rfl) (hd:op.dst=none:=by rfl) (ho:op.op= .store U x y:=by rfl) (hx:a.eval x= .pointer (some ⟨k,o,none⟩):=by rfl) (hy:a.eval y= .agg Y:=by rfl):wpList P ops Q (op::rest) a w:=
 by
  refine XGO hgd fun K hK=>?_;obtain⟨w1,h1,h2⟩:=XGc hb o ho' hU.size hU.one (.agg Y) rfl;rw[hZ] at h1;unfold Oper.wp execOp;simp only[ho,hx,hy,Instr.storeAt,Instr.sureAddr,Sem.run_bind,Sem.run_pure,Result.andThen_ok,h2];refine hK _ _ ?_;rw[hd];exact h w1 h1
theorem stC{P:Program}{ops:Array Oper}{rest:List Oper}{op:Oper}{a:Act}{w:World}{Q:Exit→Act→World→Prop}{k:Nat}{X:Array Value}{T U:TypeId}{x y:Operand}{u:Value}(hb:Bx P w k X T)(o:Nat)(ho':o<X.size){Z:Array Value}(hZ:X.setIfInBounds o u=Z)(hu:u.oneCell'=true)
 (h: ∀w1,Put w k Z T w1→wpList P ops Q rest a w1) (hU:(P.info? U).map (·.size)=some 1:=by kernel_rfl) (hgd:Region.wanted op (yielded ops a.tmps)=true:=by rfl) (hd:op.dst=none:=by rfl) (ho:op.op= .store U x y:=by rfl) (hx:a.eval x= .pointer (some ⟨k,o,none⟩):=by rfl) (hy:a.eval y=u:=by rfl):wpList P ops Q (op::rest) a w:=
 by
  refine XGO hgd fun K hK=>?_;have hc:u.cells= #[u]:=by cases u <;> first | rfl | cases hu
  obtain⟨w1,h1,h2⟩:=XGc (Y:= #[u]) hb o (by simp only[List.size_toArray,List.length_cons,List.length_nil];omega) (U:=U) hU (by simp [hu]) u hc;have b:putL X o (#[u]:Array Value).toList=Z:=hZ;rw[b] at h1;unfold Oper.wp execOp;simp only[ho,hx,hy,Instr.storeAt,Instr.sureAddr,Sem.run_bind,Sem.run_pure,Result.andThen_ok,h2];refine hK _ _ ?_;rw[hd];exact h w1 h1
theorem XGe{M M':Array Value}{a b c:Value}(h:M.size=9)(h':M'.size=9):putL (M++ #[a,b,c]) 0 M'.toList=M'++ #[a,b,c]:=by
 obtain⟨m0,m1,m2,m3,m4,m5,m6,m7,m8,rfl⟩:=nine h;obtain⟨n0,n1,n2,n3,n4,n5,n6,n7,n8,rfl⟩:=nine h';kernel_rfl
theorem XGf{M:Array Value}{a b c:Value}(h:M.size=9)(u:Value):(M++ #[a,b,c]).setIfInBounds 9 u=M++ #[u,b,c]∧(M++ #[a,b,c]).setIfInBounds 10 u=M++ #[a,u,c]∧(M++ #[a,b,c]).setIfInBounds 11 u=M++ #[a,b,u]:=by
 obtain⟨m0,m1,m2,m3,m4,m5,m6,m7,m8,rfl⟩:=nine h;exact⟨by kernel_rfl,by kernel_rfl,by kernel_rfl⟩
theorem XGg{M:Array Value}{a b c:Value}(h:M.size=9):(M++ #[a,b,c])[9]? =some a∧(M++ #[a,b,c])[10]? =some b∧(M++ #[a,b,c])[11]? =some c∧(M++ #[a,b,c]).size=12∧M=(M++ #[a,b,c]).extract 0 (0+M.size):=by
 obtain⟨m0,m1,m2,m3,m4,m5,m6,m7,m8,rfl⟩:=nine h;exact⟨by kernel_rfl,by kernel_rfl,by kernel_rfl,by kernel_rfl,by kernel_rfl⟩
def FPx(P:Program)(B:Nat)(cs:Array Value)(T:TypeId)(v:Value)(w:World):Prop:=∃p,v= .pointer (some ⟨p,0,none⟩)∧B≤p∧Bx P w p cs T
theorem XFX{P:Program}{B:Nat}{cs:Array Value}{T:TypeId}{v:Value}{w w1:World}(h:FPx P B cs T v w)(hb:Below w.heap.size w w1):FPx P B cs T v w1:=by
 obtain⟨p,e,h1,h2⟩:=h;exact⟨p,e,h1,XFa h2 hb⟩
theorem XFZ(w:World)(o:Obj):RgA.New (.pointer (some ⟨w.heap.size,0,none⟩)) w (w.alloc o):=⟨_,rfl,Nat.le_refl _,by simp⟩
theorem atL{P:Program}{ops:Array Oper}{a:Act}{w:World}{K':Act→World→Prop}{Q:Exit→Act→World→Prop}{x0:Option Tmp}{x2:TypeId}{x3:String}{x4:Array Edge}{x5:Option (Nat × Bool)}{T:TypeId}{x:Operand}{k:Nat}{X Ts:Array Value}{Zp:Prop}(hb:Bx P w k X T)
 (h:K' (a.put x0 (.agg X)) w) (hx:a.eval x= .pointer (some ⟨k,0,none⟩):=by rfl)
 (hg:Region.wanted ⟨x0, .load T x,x2,x3,x4,x5⟩ (yielded ops Ts)=true:=by rfl):if Region.wanted ⟨x0, .load T x,x2,x3,x4,x5⟩ (yielded ops Ts)=true then Oper.wp P ⟨x0, .load T x,x2,x3,x4,x5⟩ a w K' Q else Zp:=by
 rw[if_pos hg];unfold Oper.wp execOp;simp only[hx,Instr.loadAt,Instr.sureAddr,Sem.run_bind,Sem.run_pure,Result.andThen_ok,XFd hb];exact h
theorem atO{P:Program}{ops:Array Oper}{a:Act}{w:World}{K':Act→World→Prop}{Q:Exit→Act→World→Prop}{o:Oper}{v:Value}{Ts:Array Value}{Zp:Prop}(h1:(execOp a.eval o).run P w= .ok (.value v) w)
 (h:K' (a.put o.dst v) w) (hg:Region.wanted o (yielded ops Ts)=true:=by rfl):if Region.wanted o (yielded ops Ts)=true then Oper.wp P o a w K' Q else Zp:=by
 rw[if_pos hg];unfold Oper.wp;rw[h1];exact h
open Mch (MS)
open Stg (Ch St)
def stgC(s:St)(vn vg vc vp:Value):Array Value:= #[.int .i64 s.m.kind,strV s.m.d,vn,vg, .bool s.m.s.on, .int .i64 s.m.s.kind, .bool s.m.s.pict, .bool s.m.s.odd,vc,vp, .bool s.ended, .bool s.shut]
def RS(J:Nat→Prop)(w:World)(v:Value)(s:St):Prop:=∃vn vg vc vp,v= .agg (stgC s vn vg vc vp)∧RIo J w vn s.m.n∧RIo J w vg s.m.g∧RIo J w vc s.m.c∧RIo J w vp s.pend
theorem X3f{J:Nat→Prop}{w w1:World}{v:Value}{s:St}(h:RS J w v s)(hs:X4l J w w1):RS J w1 v s:=by
 obtain⟨vn,vg,vc,vp,e,h1,h2,h3,h4⟩:=h;exact⟨vn,vg,vc,vp,e,X4o h1 hs,X4o h2 hs,X4o h3 hs,X4o h4 hs⟩
theorem X3s{J K:Nat→Prop}{w:World}{v:Value}{s:St}(h:RS J w v s)(hK: ∀j,j<w.heap.size→K j→J j):RS K w v s:=by
 obtain⟨vn,vg,vc,vp,e,h1,h2,h3,h4⟩:=h;exact⟨vn,vg,vc,vp,e,X49 h1 hK,X49 h2 hK,X49 h3 hK,X49 h4 hK⟩
theorem X08{J:Nat→Prop}{w w1:World}{v:Value}{s:St}(h:RS J w v s)(hb:Below w.heap.size w w1):RS J w1 v s:=X3f h (X1e hb)
theorem X5L{J:Nat→Prop}{w:World}{v:Value}{s:St}{p:Nat}(h:RS J w v s)(hp:w.heap.size≤p):RS (fun j=>J j∨j=p) w v s:=X3s h fun j hj h=>h.elim id fun e=>absurd hj (by omega)
theorem X2b{J:Nat→Prop}{w:World}{v:Value}{c:Ch}{p:Nat}(h:RCh J w v c)(hp:w.heap.size≤p):RCh (fun j=>J j∨j=p) w v c:=X0Q h fun j hj h=>h.elim id fun e=>absurd hj (by omega)
def X34(k:Int)(S:ByteArray)(pn:Option Addr)(n cn:Nat)(pg:Option Addr)(g cg:Nat)(on:Bool)(kd:Int)(pi od:Bool)(pc:Option Addr)(c cc:Nat)(pp:Option Addr)(p cp:Nat)(en sh:Bool):Array Value:=
 #[.int .i64 k, .string S, .slice pn n cn, .slice pg g cg, .bool on, .int .i64 kd, .bool pi, .bool od, .slice pc c cc, .slice pp p cp, .bool en, .bool sh]
theorem X2a{J:Nat→Prop}{w:World}{v:Value}{s:St}(h:RS J w v s): ∃pn cn pg cg pc cc pp cp,v= .agg (X34 s.m.kind ⟨s.m.d.toArray⟩ pn s.m.n.length cn pg s.m.g.length cg s.m.s.on s.m.s.kind s.m.s.pict s.m.s.odd pc s.m.c.length cc pp s.pend.length cp s.ended s.shut):=by
 obtain⟨vn,vg,vc,vp,rfl,h1,h2,h3,h4⟩:=h;obtain⟨pn,cn,rfl⟩:=X0b h1.1;obtain⟨pg,cg,rfl⟩:=X0b h2.1;obtain⟨pc,cc,rfl⟩:=X0b h3.1;obtain⟨pp,cp,rfl⟩:=X0b h4.1;exact⟨pn,cn,pg,cg,pc,cc,pp,cp,rfl⟩
structure Stg.St.Small (s:St):Prop where
 m:Mch.Small s.m
 p:s.pend.length≤1000
 k:I64 s.m.kind
def Stg.Ch.Wf(c:Ch):Prop:=∀b∈c.L,WfI b
def XeD(J:Nat→Prop)(q:St × Ch × Ch × Bool)(w:World)(e:Ending)(w':World):Prop:=∃vs vi vo,e= .returned (.tuple #[vs,vi,vo, .bool q.2.2.2])∧RS J w' vs q.1∧RCh J w' vi q.2.1∧RCh J w' vo q.2.2.1∧Below w.heap.size w w'
def NewC17:Prop:=∀ (J:Nat→Prop) (k:Int) (w:World),I64 k→Calls Tryz.prog 22 #[.int .i64 k] w fun e w'=>∃v,e= .returned v∧RS J w' v (Stg.newS k)∧Below w.heap.size w w'
def SaneC17:Prop:=∀ (J:Nat→Prop) (v:Value) (s:St) (w:World),Tabs w→s.Small→RS J w v s→Calls Tryz.prog 17 #[v] w fun e w'=>e= .returned (.bool (Stg.saneS s))∧Below w.heap.size w w'
def StepC17:Prop:=∀ (J:Nat→Prop) (v:Value) (s:St) (vi:Value) (i:Ch) (vo:Value) (o:Ch) (w:World),Tabs w→Old J w→s.Small→i.Few→o.Few→i.Wf→RS J w v s→RCh J w vi i→RCh J w vo o→Calls Tryz.prog 11 #[v,vi,vo] w (XeD J (Stg.stepS s i o) w)
def CanC17:Prop:=∀ (J:Nat→Prop) (v:Value) (s:St) (vi:Value) (i:Ch) (vo:Value) (o:Ch) (w:World),Tabs w→Old J w→s.Small→i.Few→o.Few→i.Wf→RS J w v s→RCh J w vi i→RCh J w vo o→Calls Tryz.prog 19 #[v,vi,vo] w fun e w'=>e= .returned (.bool (Stg.stepS s i o).2.2.2)∧Below w.heap.size w w'
def CostC17:Prop:=∀ (J:Nat→Prop) (v:Value) (s:St) (w:World),Tabs w→s.Small→RS J w v s→Calls Tryz.prog 20 #[v] w fun e w'=>e= .returned (.int .i64 (Stg.costS s:Nat))∧Below w.heap.size w w'
def RMo(J:Nat→Prop)(w:World)(v:Value)(m:MS):Prop:=∃vn vg vc,v=mchV m vn vg vc∧RIo J w vn m.n∧RIo J w vg m.g∧RIo J w vc m.c
theorem XFr{J:Nat→Prop}{w:World}{v:Value}{m:MS}(h:RMo J w v m):RM w v m:=by
 obtain⟨vn,vg,vc,e,h1,h2,h3⟩:=h;exact⟨vn,vg,vc,e,h1.1,h2.1,h3.1⟩
theorem XFm{J:Nat→Prop}{w w1:World}{v:Value}{m:MS}(h:RMo J w v m)(hs:X4l J w w1):RMo J w1 v m:=by
 obtain⟨vn,vg,vc,e,h1,h2,h3⟩:=h;exact⟨vn,vg,vc,e,X4o h1 hs,X4o h2 hs,X4o h3 hs⟩
theorem XFn{J:Nat→Prop}{w w1:World}{v:Value}{m:MS}(h:RMo J w v m)(hb:Below w.heap.size w w1):RMo J w1 v m:=XFm h (X1e hb)
theorem XFo{J K:Nat→Prop}{w:World}{v:Value}{m:MS}(h:RMo J w v m)(hK: ∀j,j<w.heap.size→K j→J j):RMo K w v m:=by
 obtain⟨vn,vg,vc,e,h1,h2,h3⟩:=h;exact⟨vn,vg,vc,e,X49 h1 hK,X49 h2 hK,X49 h3 hK⟩
theorem XFj{J:Nat→Prop}{w:World}{v:Value}{l:List Int}(h:RIo J w v l){j:Nat}(hj:J j):OffV j v:=by
 intro e;by_cases hl:l= []
 ·subst hl;rcases h.1 with⟨rfl,_⟩ | ⟨a,c,rfl,_,_⟩
  ·exact⟨none,0,rfl⟩
  ·exact⟨some a,c,rfl⟩
 ·exact absurd hj (h.2 hl j e)
theorem XFi{J:Nat→Prop}{w:World}{v:Value}{l:List Int}(h:RI w v l)(ho: ∀j,J j→OffV j v):RIo J w v l:=by
 refine⟨h,fun hl j e hj=>?_⟩;obtain⟨a,c,rfl⟩:=ho j hj e;obtain⟨p,k,e2⟩:=X0b h;injection e2 with _ e3 _;exact hl (List.eq_nil_of_length_eq_zero e3.symm)
theorem XFl{J:Nat→Prop}{w:World}{v:Value}{m:MS}(h:RMo J w v m){j:Nat}(hj:J j):OffM j v:=by
 obtain⟨vn,vg,vc,rfl,h1,h2,h3⟩:=h;intro cs e u hu;unfold mchV at e;cases e;simp only[List.mem_cons,List.not_mem_nil,or_false] at hu;rcases hu with rfl | rfl | rfl | rfl | rfl | rfl | rfl | rfl | rfl;all_goals first | exact XFj h1 hj | exact XFj h2 hj | exact XFj h3 hj | (intro e;cases e)
theorem XFk{J:Nat→Prop}{w:World}{v:Value}{m:MS}(h:RM w v m)(ho: ∀j,J j→OffM j v):RMo J w v m:=by
 obtain⟨vn,vg,vc,rfl,h1,h2,h3⟩:=h;refine⟨vn,vg,vc,rfl,XFi h1 fun j hj=>ho j hj _ rfl vn ?_,XFi h2 fun j hj=>ho j hj _ rfl vg ?_,XFi h3 fun j hj=>ho j hj _ rfl vc ?_⟩ <;> simp
theorem XFq{J:Nat→Prop}{w w':World}{v:Value}{m:MS}{q:MS × List Int}{e:Ending}(h:FedM v q w e w')(hold:Old J w)(hv:RMo J w v m): ∃va vb,e= .returned (.tuple #[va,vb])∧RMo J w' va q.1∧RIo J w' vb q.2∧Below w.heap.size w w':=by
 obtain⟨va,vb,e,h1,h2,h3,h4⟩:=h;exact⟨va,vb,e,XFk h1 fun j hj=>(h3 j (hold j hj) (XFl hv hj)).1,XFi h2 fun j hj=>(h3 j (hold j hj) (XFl hv hj)).2,h4⟩
theorem rmo_x{J:Nat→Prop}{w:World}{v:Value}{m:MS}(h:RMo J w v m): ∃M,v= .agg M∧M.size=9∧M.all (·.oneCell')=true∧M[0]? =some (.int .i64 m.kind):=by
 obtain⟨vn,vg,vc,rfl,h1,h2,h3⟩:=h;obtain⟨pn,cn,rfl⟩:=X0b h1.1;obtain⟨pg,cg,rfl⟩:=X0b h2.1;obtain⟨pc,cc,rfl⟩:=X0b h3.1;exact⟨_,rfl,rfl,by kernel_rfl,rfl⟩
theorem rs_x{J:Nat→Prop}{w:World}{v:Value}{s:St}(h:RS J w v s): ∃X,v= .agg X∧X.size=12∧X.all (·.oneCell')=true:=by
 obtain⟨vn,vg,vc,vp,rfl,h1,h2,h3,h4⟩:=h;obtain⟨pn,cn,rfl⟩:=X0b h1.1;obtain⟨pg,cg,rfl⟩:=X0b h2.1;obtain⟨pc,cc,rfl⟩:=X0b h3.1;obtain⟨pp,cp,rfl⟩:=X0b h4.1;exact⟨_,rfl,rfl,by kernel_rfl⟩
theorem XFp{J:Nat→Prop}{w:World}{X:Array Value}{s:St}(h:RS J w (.agg X) s):X[0]? =some (.int .i64 s.m.kind)∧(∃pp cp,X[9]? =some (.slice pp s.pend.length cp)∧RIo J w (.slice pp s.pend.length cp) s.pend)∧X[10]? =some (.bool s.ended)∧X[11]? =some (.bool s.shut)∧RMo J w (.agg (X.extract 0 9)) s.m:=by
 obtain⟨vn,vg,vc,vp,e,h1,h2,h3,h4⟩:=h;injection e with e;subst e;obtain⟨pp,cp,rfl⟩:=X0b h4.1;exact⟨rfl,⟨pp,cp,rfl,h4⟩,rfl,rfl,vn,vg,vc,rfl,h1,h2,h3⟩
theorem rs_mk{J:Nat→Prop}{w:World}{M:Array Value}{m:MS}{vp:Value}{l:List Int}(e h:Bool)(hm:RMo J w (.agg M) m)(hp:RIo J w vp l):RS J w (.agg (M++ #[vp, .bool e, .bool h])) ⟨m,l,e,h⟩:=by
 obtain⟨vn,vg,vc,e',h1,h2,h3⟩:=hm;unfold mchV at e';injection e' with e';subst e';exact⟨vn,vg,vc,vp,rfl,h1,h2,h3,hp⟩
abbrev TR17:TypeId:=34
abbrev TR16:TypeId:=37
def zeroS:Array Value:= #[.int .i64 0, .string ⟨#[]⟩, .slice none 0 0, .slice none 0 0, .bool false, .int .i64 0, .bool false, .bool false, .slice none 0 0, .slice none 0 0, .bool false, .bool false]
def zeroC:Array Value:= #[.slice none 0 0, .bool false]
theorem vx_S{X:Array Value}(hn:X.size=12)(h1:X.all (·.oneCell')=true):Vx Tryz.prog TR17 X:=⟨⟨_,Tryz.underlying34,rfl⟩,by rw[hn];kernel_rfl,h1⟩
theorem vx_C{X:Array Value}(hn:X.size=2)(h1:X.all (·.oneCell')=true):Vx Tryz.prog TR16 X:=⟨⟨_,Tryz.underlying37,rfl⟩,by rw[hn];kernel_rfl,h1⟩
abbrev TR15:TypeId:=32
theorem vx_M{X:Array Value}(hn:X.size=9)(h1:X.all (·.oneCell')=true):Vx Tryz.prog TR15 X:=⟨⟨_,Tryz.underlying32,rfl⟩,by rw[hn];kernel_rfl,h1⟩
theorem XFD(J:Nat→Prop)(w:World):RIo J w (.slice none 0 0) []:=⟨X9J w,fun h=>absurd rfl h⟩
def zeroM:Array Value:= #[.int .i64 0, .string ⟨#[]⟩, .slice none 0 0, .slice none 0 0, .bool false, .int .i64 0, .bool false, .bool false, .slice none 0 0]
theorem vz_M:Vx Tryz.prog TR15 zeroM:=vx_M rfl (by kernel_rfl)
theorem vz_S:Vx Tryz.prog TR17 zeroS:=vx_S rfl (by kernel_rfl)
theorem vz_C:Vx Tryz.prog TR16 zeroC:=vx_C rfl (by kernel_rfl)
theorem rch_x{J:Nat→Prop}{w:World}{v:Value}{c:Ch}(h:RCh J w v c): ∃Y,v= .agg Y∧Y.size=2∧Y.all (·.oneCell')=true∧(∃p cap,Y[0]? =some (.slice p c.L.length cap))∧Y[1]? =some (.bool c.closed):=by
 obtain⟨p,cap,rfl,_⟩:=X0m h;exact⟨_,rfl,rfl,by kernel_rfl,⟨p,cap,rfl⟩,rfl⟩
theorem six{P:Program}{w:World}{T1 T2 T3 T4 T5 T6:TypeId}{A1 A2 A3 A4 A5 A6:Array Value}(h1:Vx P T1 A1)(h2:Vx P T2 A2)(h3:Vx P T3 A3)(h4:Vx P T4 A4)(h5:Vx P T5 A5)(h6:Vx P T6 A6):
 ∃W,(((((w.alloc (.cells A1 T1)).alloc (.cells A2 T2)).alloc (.cells A3 T3)).alloc (.cells A4 T4)).alloc (.cells A5 T5)).alloc (.cells A6 T6)=W∧Bx P W w.heap.size A1 T1∧Bx P W (w.heap.size+1) A2 T2∧Bx P W (w.heap.size+1+1) A3 T3∧Bx P W (w.heap.size+1+1+1) A4 T4∧Bx P W (w.heap.size+1+1+1+1) A5 T5∧Bx P W (w.heap.size+1+1+1+1+1) A6 T6∧Below w.heap.size w W:=by
 have n {T:TypeId} {A:Array Value} (u:World):=X04 u (.cells A T);have b1:=XFb h1 w;have b2:=bx_at (w:=w.alloc (.cells A1 T1)) (k:=w.heap.size+1) (by simp) h2;have b3:=bx_at (w:=(w.alloc (.cells A1 T1)).alloc (.cells A2 T2)) (k:=w.heap.size+1+1) (by simp) h3;have b4:=bx_at (w:=((w.alloc (.cells A1 T1)).alloc (.cells A2 T2)).alloc (.cells A3 T3)) (k:=w.heap.size+1+1+1) (by simp) h4;have b5:=bx_at (w:=(((w.alloc (.cells A1 T1)).alloc (.cells A2 T2)).alloc (.cells A3 T3)).alloc (.cells A4 T4)) (k:=w.heap.size+1+1+1+1) (by simp) h5
 have b6:=bx_at (w:=((((w.alloc (.cells A1 T1)).alloc (.cells A2 T2)).alloc (.cells A3 T3)).alloc (.cells A4 T4)).alloc (.cells A5 T5)) (k:=w.heap.size+1+1+1+1+1) (by simp) h6;refine⟨_,rfl,?_,?_,?_,?_,?_,b6,?_⟩
 ·exact XFa (XFa (XFa (XFa (XFa b1 (n _)) (n _)) (n _)) (n _)) (n _)
 ·exact XFa (XFa (XFa (XFa b2 (n _)) (n _)) (n _)) (n _)
 ·exact XFa (XFa (XFa b3 (n _)) (n _)) (n _)
 ·exact XFa (XFa b4 (n _)) (n _)
 ·exact XFa b5 (n _)
 ·exact(((((n w).alloc (by simp) _).alloc (by simp;omega) _).alloc (by simp;omega) _).alloc (by simp;omega) _).alloc (by simp;omega) _
theorem XFG{J:Nat→Prop}{w w1:World}{v:Value}{l:List Int}(h:RIo J w v l)(hb:Below w.heap.size w w1):RIo J w1 v l:=X4o h (X1e hb)
theorem XFz{J K:Nat→Prop}{w:World}{v:Value}{l:List Int}(h:RIo J w v l)(hK: ∀j,K j→J j∨w.heap.size≤j):RIo K w v l:=X49 (Xi7 h) fun j _ hj=>hK j hj
theorem XFC{J K:Nat→Prop}{w:World}{v:Value}{s:St}(h:RS J w v s)(hK: ∀j,K j→J j∨w.heap.size≤j):RS K w v s:=by
 obtain⟨vn,vg,vc,vp,e,h1,h2,h3,h4⟩:=h;exact⟨vn,vg,vc,vp,e,XFz h1 hK,XFz h2 hK,XFz h3 hK,XFz h4 hK⟩
theorem XFA{J K:Nat→Prop}{w:World}{v:Value}{c:Ch}(h:RCh J w v c)(hK: ∀j,K j→J j∨w.heap.size≤j):RCh K w v c:=X0Q (X79 h) fun j _ hj=>hK j hj
theorem three{P:Program}{w:World}{T1 T2 T3:TypeId}{A1 A2 A3:Array Value}(h1:Vx P T1 A1)(h2:Vx P T2 A2)(h3:Vx P T3 A3):
 ∃W,((w.alloc (.cells A1 T1)).alloc (.cells A2 T2)).alloc (.cells A3 T3)=W∧Bx P W w.heap.size A1 T1∧Bx P W (w.heap.size+1) A2 T2∧Bx P W (w.heap.size+1+1) A3 T3∧Below w.heap.size w W:=by
 have n {T:TypeId} {A:Array Value} (u:World):=X04 u (.cells A T);have b1:=XFb h1 w;have b2:=bx_at (w:=w.alloc (.cells A1 T1)) (k:=w.heap.size+1) (by simp) h2;have b3:=bx_at (w:=(w.alloc (.cells A1 T1)).alloc (.cells A2 T2)) (k:=w.heap.size+1+1) (by simp) h3;exact⟨_,rfl,XFa (XFa b1 (n _)) (n _),XFa b2 (n _),b3,((n w).alloc (by simp) _).alloc (by simp;omega) _⟩
abbrev TO17:TypeId:=48
abbrev TO16:TypeId:=49
abbrev TO15:TypeId:=46
theorem wx_S{X:Array Value}(hn:X.size=12)(h1:X.all (·.oneCell')=true):Vx Tryz.prog TO17 X:=⟨⟨_,Tryz.underlying48,rfl⟩,by rw[hn];kernel_rfl,h1⟩
theorem wx_C{X:Array Value}(hn:X.size=2)(h1:X.all (·.oneCell')=true):Vx Tryz.prog TO16 X:=⟨⟨_,Tryz.underlying49,rfl⟩,by rw[hn];kernel_rfl,h1⟩
theorem wx_M{X:Array Value}(hn:X.size=9)(h1:X.all (·.oneCell')=true):Vx Tryz.prog TO15 X:=⟨⟨_,Tryz.underlying46,rfl⟩,by rw[hn];kernel_rfl,h1⟩
theorem wz_S:Vx Tryz.prog TO17 zeroS:=wx_S rfl (by kernel_rfl)
theorem wz_C:Vx Tryz.prog TO16 zeroC:=wx_C rfl (by kernel_rfl)
def S3(P:Program)(a b c:Nat)(X Y Z:Array Value)(T U:TypeId)(W:World):Prop:=Bx P W a X T∧Bx P W b Y U∧Bx P W c Z U
theorem XFE{P:Program}{a b c k:Nat}{X Y Z V:Array Value}{T U T':TypeId}{W W':World}(h:S3 P a b c X Y Z T U W)(p:Put W k V T' W')(h1:a≠k)(h2:b≠k)(h3:c≠k):S3 P a b c X Y Z T U W':=⟨XFh h.1 p h1,XFh h.2.1 p h2,XFh h.2.2 p h3⟩
theorem XFF{P:Program}{a b c:Nat}{X Y Z:Array Value}{T U:TypeId}{W W':World}(h:S3 P a b c X Y Z T U W)(q:Below W.heap.size W W'):S3 P a b c X Y Z T U W':=⟨XFa h.1 q,XFa h.2.1 q,XFa h.2.2 q⟩
def Jx(J:Nat→Prop)(w:World):Nat→Prop:=fun j=>J j∨(w.heap.size≤j∧j<w.heap.size+6)
theorem XFB{J:Nat→Prop}{w:World} : ∀j,Jx J w j→J j∨w.heap.size≤j:=fun j h=>h.elim .inl fun h=> .inr h.1
theorem XGj{J:Nat→Prop}{w:World}{X:Array Value}{s:St}(h:RS J w (.agg X) s): ∃M pp cp,X=M++ #[.slice pp s.pend.length cp, .bool s.ended, .bool s.shut]∧M.size=9∧M.all (·.oneCell')=true∧M[0]? =some (.int .i64 s.m.kind)∧RMo J w (.agg M) s.m∧RIo J w (.slice pp s.pend.length cp) s.pend:=by
 obtain⟨vn,vg,vc,vp,e,h1,h2,h3,h4⟩:=h;obtain⟨pn,cn,rfl⟩:=X0b h1.1;obtain⟨pg,cg,rfl⟩:=X0b h2.1;obtain⟨pc,cc,rfl⟩:=X0b h3.1;obtain⟨pp,cp,rfl⟩:=X0b h4.1;injection e with e;subst e;exact⟨#[.int .i64 s.m.kind,strV s.m.d, .slice pn s.m.n.length cn, .slice pg s.m.g.length cg, .bool s.m.s.on, .int .i64 s.m.s.kind, .bool s.m.s.pict, .bool s.m.s.odd, .slice pc s.m.c.length cc],pp,cp,rfl,rfl,by kernel_rfl,rfl,⟨_,_,_,rfl,h1,h2,h3⟩,h4⟩
theorem XGh{w w':World}{v:Value}(h:RI w v []):RI w' v []:=by
 rcases h with⟨a,b⟩ | ⟨a,c,e,h1,h2⟩
 ·exact .inl ⟨a,b⟩
 ·exact .inr ⟨a,c,e,h1,fun h=>absurd h (by simp)⟩
theorem XGl{J:Nat→Prop}{w w':World}{v:Value}{k:Int}(h:RM w v (Mch.newM k)):RMo J w' v (Mch.newM k):=by
 obtain⟨vn,vg,vc,e,h1,h2,h3⟩:=h;exact⟨vn,vg,vc,e,⟨XGh h1,fun h=>absurd rfl h⟩,⟨XGh h2,fun h=>absurd rfl h⟩,⟨XGh h3,fun h=>absurd rfl h⟩⟩
theorem XGm{J K:Nat→Prop}{w:World}{v:Value}{m:MS}(h:RMo J w v m)(hK: ∀j,K j→J j∨w.heap.size≤j):RMo K w v m:=by
 obtain⟨a,b,c,e,g1,g2,g3⟩:=h;exact⟨a,b,c,e,XFz g1 hK,XFz g2 hK,XFz g3 hK⟩
theorem all12{M:Array Value}{p:Option Addr}{n c:Nat}{e h:Bool}(h1:M.all (·.oneCell')=true):(M++(#[.slice p n c, .bool e, .bool h]:Array Value)).all (·.oneCell')=true:=by rw[Array.all_append,h1];kernel_rfl
theorem wx_12{M:Array Value}{p:Option Addr}{n c:Nat}{e h:Bool}(hM:M.size=9)(h1:M.all (·.oneCell')=true):Vx Tryz.prog TO17 (M++ #[.slice p n c, .bool e, .bool h]):=wx_S (by simp [hM]) (all12 h1)
def Jn(n:Nat)(J:Nat→Prop)(w:World):Nat→Prop:=fun j=>J j∨(w.heap.size≤j∧j<w.heap.size+n)
theorem XGo{n:Nat}{J:Nat→Prop}{w:World} : ∀j,Jn n J w j→J j∨w.heap.size≤j:=fun j h=>h.elim .inl fun h=> .inr h.1
theorem XGp{n:Nat}{J:Nat→Prop}{w W:World}(h:Old J w)(hW:w.heap.size+n≤W.heap.size):Old (Jn n J w) W:=fun j hj=>by
 rcases hj with hj | hj
 ·have:=h j hj;omega
 ·omega
theorem XGn{n:Nat}{J:Nat→Prop}{w:World} : ∀W:World,∀j,j<W.heap.size→J j→Jn n J w j:=fun _ j _ h=> .inl h
theorem wtwo{P:Program}{w:World}{T1 T2:TypeId}{A1 A2:Array Value}(h1:Vx P T1 A1)(h2:Vx P T2 A2):
 ∃W,(w.alloc (.cells A1 T1)).alloc (.cells A2 T2)=W∧Bx P W w.heap.size A1 T1∧Bx P W (w.heap.size+1) A2 T2∧Below w.heap.size w W∧W.heap.size=w.heap.size+2:=by
 have n {T:TypeId} {A:Array Value} (u:World):=X04 u (.cells A T);have b1:=XFb h1 w;have b2:=bx_at (w:=w.alloc (.cells A1 T1)) (k:=w.heap.size+1) (by simp) h2;exact⟨_,rfl,XFa b1 (n _),b2,(n w).alloc (by simp) _,by simp⟩
theorem XGk{ev:Operand→Value}{x0:Operand}{d:Option Tmp}{ty:TypeId}{po:String}{af:Array Edge}{gd:Option (Nat × Bool)}{M:Array Value}(hM:M.size=9)(w:World)(h0:ev x0= .agg M:=by rfl):
 (execOp ev ⟨d, .build TO17 #[(0,x0)],ty,po,af,gd⟩).run Tryz.prog w= .ok (.value (.agg (M++ #[.slice none 0 0, .bool false, .bool false]))) w:=by
 obtain⟨m0,m1,m2,m3,m4,m5,m6,m7,m8,rfl⟩:=nine hM;unfold execOp;simp only[List.map_toArray,List.map_cons,List.map_nil,h0];kernel_rfl
def FB(K:Nat→Prop)(q:Ch × Bool)(v:Value)(w:World):Prop:=∃vz,v= .tuple #[vz, .bool q.2]∧RCh K w vz q.1
theorem XGt{K:Nat→Prop}{q:Ch × Bool}{v:Value}{w w1:World}(h:FB K q v w)(hb:Below w.heap.size w w1):FB K q v w1:=by
 obtain⟨vz,e,h1⟩:=h;exact⟨vz,e,X01 h1 hb⟩
theorem XGx{J K:Nat→Prop}{w w1:World}(h:X4l J w w1)(hK: ∀j,J j→K j):X4l K w w1:=⟨h.1,fun j hj hn=>h.2 j hj fun e=>hn (hK j e)⟩
theorem XGw{P:Program}{K:Nat→Prop}{w w1:World}{k:Nat}{X:Array Value}{T:TypeId}(h:Bx P w k X T)(ho:X4l K w w1)(hn: ¬K k):Bx P w1 k X T:=
 ⟨by have:=ho.2 k (X1h h.blk) hn;have hb:=h.blk;unfold Blk at *;rw[this];exact hb,h.v⟩
theorem XGy{P:Program}{w w1:World}{k:Nat}{X:Array Value}{T:TypeId}{row:Option Nat}(h:Bx P w k X T)(hg:w.grownBy w1 row)(hne:row≠some k):Bx P w1 k X T:=
 XGw (K:=fun j=>row=some j) h ⟨hg.size,fun j hj hr=>hg.block j hj fun e=>hr e.symm⟩ hne
def FdR(P:Program)(T:TypeId)(J:Nat→Prop)(w:World)(kb B:Nat)(mk:Array Value→Array Value)(w2:World)(q:MS × List Int)(va:Value)(wr:World):Prop:=
 ∃Mk,Bx P wr kb (mk Mk) T∧Mk.size=9∧Mk.all (·.oneCell')=true∧RMo (fun j=>J j∨va.ownBlock=some j) wr (.agg Mk) q.1∧OwnI B va q.2 wr∧X4l (fun j=>j=kb) w2 wr∧Below w.heap.size w wr
theorem XGA{J:Nat→Prop}{w w1:World}{v v5 vm:Value}{m:MS}(h:RMo (fun j=>J j∨v.ownBlock=some j) w vm m)(hg:w.grownBy w1 v.ownBlock)(hl:Lies v5 v w):RMo (fun j=>J j∨v5.ownBlock=some j) w1 vm m:=by
 have h1:RMo (fun j=>J j∨v.ownBlock=some j∨v5.ownBlock=some j) w vm m:=XGm h fun j hj=>by
  rcases hj with hj | hj | hj
  ·exact .inl (.inl hj)
  ·exact .inl (.inr hj)
  ·rcases hl with hl | ⟨k,hl,hk⟩
   ·exact .inl (.inr (hl ▸ hj))
   ·rw[hl] at hj;cases hj;exact .inr hk
 exact XFo (XFm h1 (X55 hg fun j e=> .inr (.inl e))) fun j _ hj=>hj.elim .inl fun e=> .inr (.inr e)
theorem XGz{J:Nat→Prop}{w w1 w2:World}{v:Value}{l:List Int}(h:X4l J w w1)(hg:w1.grownBy w2 v.ownBlock)(ho:OwnI w.heap.size v l w1):X4l J w w2:=
 ⟨Nat.le_trans h.1 hg.size,fun j hj hn=>(hg.block j (Nat.lt_of_lt_of_le hj h.1) (fun e=>by have:=XzW ho j e.symm;omega)).trans (h.2 j hj hn)⟩
theorem XGC{J:Nat→Prop}{w:World}{B:Nat}{v:Value}{l:List Int}(h:Old J w)(ho:OwnI B v l w):Old (fun j=>J j∨v.ownBlock=some j) w:=fun j hj=>hj.elim (h j) fun e=>(World.ownsRow.lt ho j e).2
theorem XFK{J:Nat→Prop}{w:World}{p:Option Addr}{n cap:Nat}{l:List Int}(h:RIo J w (.slice p n cap) l)(k:Nat)(hk:k≤l.length):RIo J w (.slice p k cap) (l.take k):=
 ⟨Xt2 h.1 k hk,fun hl j e=>h.2 (fun e'=>hl (by rw[e'];simp)) j (by cases p <;> exact e)⟩
theorem XFH{J:Nat→Prop}{w:World}{b off n cap:Nat}{l:List Int}(h:RIo J w (.slice (some ⟨b,off,none⟩) n cap) l)(k:Nat)(hk:k≤l.length)(hl:0<l.length):RIo J w (.slice (some ⟨b,off+k,none⟩) (n - k) (cap - k)) (l.drop k):=
 ⟨XgN h.1 k hk hl,fun _ j e=>h.2 (List.length_pos_iff.1 hl) j e⟩
theorem XFJ{ev:Operand→Value}{x y:Operand}{d:Option Tmp}{ty:TypeId}{po:String}{af:Array Edge}{gd:Option (Nat × Bool)}{b off n cap k:Nat}(hn:k≤n)(hc:n≤cap)(w:World)(h0:ev x= .slice (some ⟨b,off,none⟩) n cap:=by rfl)(h1:ev y= .int .i64 k:=by rfl):
 (execOp ev ⟨d, .slice 24 x none (some y) none,ty,po,af,gd⟩).run Tryz.prog w= .ok (.value (.slice (some ⟨b,off,none⟩) k cap)) w:=by
 have n1: ¬(cap:Int)<(k:Int):=by omega
 have n2: ¬(k:Int)<0:=by omega
 have n3:(0:Int)≤(k:Int):=by omega
 have n4:k≤cap:=by omega
 unfold execOp;simp only[h0,h1];go_simp
theorem XFI{J:Nat→Prop}{W:World}{b off n cap k:Nat}{l:List Int}(h:RIo J W (.slice (some ⟨b,off,none⟩) n cap) l)(hk:k≤n)(hl:0<l.length): ∃p c,RIo J W (.slice p (l.drop k).length c) (l.drop k)∧∀ (ev:Operand→Value) (x y:Operand) (d:Option Tmp) (ty:TypeId) (po:String) (af:Array Edge) (gd:Option (Nat × Bool)) (w:World),ev x= .slice (some ⟨b,off,none⟩) n cap→ev y= .int .i64 k→
 (execOp ev ⟨d, .slice 24 x (some y) none none,ty,po,af,gd⟩).run Tryz.prog w= .ok (.value (.slice p (l.drop k).length c)) w:=by
 obtain⟨hn,hc,_⟩:=Xfw h.1;subst hn;have n1: ¬(l.length:Int)<(k:Int):=by omega
 have n2: ¬(k:Int)<0:=by omega
 have n3:(0:Int)≤(k:Int):=by omega
 have n4:k≤l.length:=by omega
 have n5:(k:Int)≤(l.length:Int):=by omega
 have n6:(l.length:Int)≤(cap:Int):=by omega
 rcases Nat.lt_or_ge k cap with h7 | h7
 ·have n7:(k:Int)<(cap:Int):=by omega
  have hr:=XFH h k (by omega) hl;rw[←List.length_drop] at hr;refine⟨_,_,hr,fun ev x y d ty po af gd w h0 h1=>?_⟩;rw[List.length_drop];unfold execOp;simp only[h0,h1];go_simp;exact fun e=>absurd e (by omega)
 ·have h8:cap=k:=by omega
  have h9:l.drop k= []:=List.drop_of_length_le (by omega);have a:l.length=k:=by omega
  subst h8;rw[h9];refine⟨some ⟨b,off,none⟩,0,⟨Xt3 _ _ _ (fun h=>by cases h),fun h=>absurd rfl h⟩,fun ev x y d ty po af gd w h0 h1=>?_⟩;unfold execOp;simp only[h0,h1,a];go_simp
def FMv(K J:Nat→Prop)(q:MS × List Int)(v:Value)(w:World):Prop:=∃va vb,v= .tuple #[va,vb]∧RMo (fun j=>K j∨J j) w va q.1∧RIo (fun j=>K j∨J j) w vb q.2
theorem XGM{K J:Nat→Prop}{q:MS × List Int}{v:Value}{w w1:World}(h:FMv K J q v w)(hb:Below w.heap.size w w1):FMv K J q v w1:=by
 obtain⟨va,vb,e,h1,h2⟩:=h;exact⟨va,vb,e,XFn h1 hb,XFG h2 hb⟩
theorem XGK{K J:Nat→Prop}{m:MS}{v:Value}{w:World}{p:Nat}(h:RMo (fun j=>K j∨J j) w v m)(hp:w.heap.size≤p):RMo (fun j=>K j∨(J j∨j=p)) w v m:=XGm h fun j hj=>by
 rcases hj with hj | hj | hj
 ·exact .inl (.inl hj)
 ·exact .inl (.inr hj)
 ·exact .inr (hj ▸ hp)
theorem XGL{K J:Nat→Prop}{l:List Int}{v:Value}{w:World}{p:Nat}(h:RIo (fun j=>K j∨J j) w v l)(hp:w.heap.size≤p):RIo (fun j=>K j∨(J j∨j=p)) w v l:=XFz h fun j hj=>by
 rcases hj with hj | hj | hj
 ·exact .inl (.inl hj)
 ·exact .inl (.inr hj)
 ·exact .inr (hj ▸ hp)
theorem XGN{K J:Nat→Prop}{q:MS × List Int}{v:Value}{w:World}{p:Nat}(h:FMv K J q v w)(hp:w.heap.size≤p):FMv K (fun j=>J j∨j=p) q v w:=by
 obtain⟨va,vb,e,h1,h2⟩:=h;exact⟨va,vb,e,XGK h1 hp,XGL h2 hp⟩
theorem Stg.take_b{i:Ch}(hs:Stg.saneC i=true)(hw:i.Wf):(Stg.takeC i).2.1.length≤8∧WfI (Stg.takeC i).2.1:=by
 have h:=(Stg.X11 i).1 hs;unfold Stg.takeC;rw[Stg.X0y hs];cases e:i.L with
 | nil=>exact⟨by simp,fun x hx=>by cases hx⟩
 |
  cons b r=>
  rw[e] at h;exact⟨(h.2 b (List.mem_cons_self ..)).2,hw b (by rw[e];exact List.mem_cons_self ..)⟩
end Go.Proofs.YtkofnpkopbnocaaGreatDoor
