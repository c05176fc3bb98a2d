import Derived.Test.YtkofnpkopbnocaaGreatDoorKP
import Derived.Shelf.Spec.SlicesInsert
import Derived.Shelf.Spec.SlicesInsertGrow
import Derived.Test.YtkofnpkopbnocaaGreatDoorCnP
import Derived.Test.YtkofnpkopbnocaaGreatDoorPaP
import Derived.Test.YtkofnpkopbnocaaGreatDoorBasP
import Derived.Test.YtkofnpkopbnocaaGreatDoorShelf
import Derived.Test.YtkofnpkopbnocaaGreatDoorDeP
set_option linter.unusedSimpArgs false
set_option linter.unusedVariables false
set_option maxRecDepth 100000
set_option maxHeartbeats 12800000
namespace Go.Proofs.YtkofnpkopbnocaaGreatDoor
open Go.RowKit Go.Lib Go.Shelf
noncomputable def XyN:Go.Shelf.Ren:=⟨fun | 21=>195 | 27=>219 | 28=>220 | 35=>231 | 39=>235 | n=>n,fun | 0=>0 | 3=>3 | 4=>4 | 22=>24 | n=>n,fun | n=>n⟩
theorem Xe0:Go.Proofs.Lays2.n21 Tryz.prog XyN:= {
 mixed:=by kernel_rfl
 f21:=Tryz.func195.trans (congrArg some (by kernel_rfl))
 f27:=Tryz.func219.trans (congrArg some (by kernel_rfl))
 f28:=Tryz.func220.trans (congrArg some (by kernel_rfl))
 f35:=Tryz.func231.trans (congrArg some (by kernel_rfl))
 f39:=Tryz.func235.trans (congrArg some (by kernel_rfl))
 t0:=Tryz.underlying0
 a0:=Tryz.isAgg0
 z0:=Tryz.sizeOf0
 v0:=Tryz.zeroValue0
 t3:=Tryz.underlying3
 a3:=Tryz.isAgg3
 z3:=Tryz.sizeOf3
 v3:=Tryz.zeroValue3
 t4:=Tryz.underlying4
 a4:=Tryz.isAgg4
 z4:=Tryz.sizeOf4
 v4:=Tryz.zeroValue4
 t22:=Tryz.underlying24
 a22:=Tryz.isAgg24
 z22:=Tryz.sizeOf24
 v22:=Tryz.zeroValue24
 i3:=by kernel_rfl }
theorem X4O(g:Nat)(e:TypeId): ∀ (vs:List Value) (o:Nat) (w:World) (cur:Array Value),w.heap[g]? =some (.cells cur e)→∃a,(w.setCells g o vs).heap[g]? =some (.cells a e)∧a.size=cur.size
 | [],_,_,cur,h=>⟨cur,h,rfl⟩
 |
  v::r,o,w,cur,h=>by
  obtain⟨c2,h2,h3⟩:=X4O g e r (o+1) (w.setCell ⟨g,o,none⟩ v) _ (heap_setCell_same w g o cur e v h);exact⟨c2,h2,by rw[h3];simp⟩
theorem Xhl{w w1 w2:World}{row:Option Nat}(h1:w.grownBy w1 row)(h2:w1.grownBy w2 row):w.grownBy w2 row:=
 ⟨h2.os.trans h1.os,h2.tape.trans h1.tape,h2.output.trans h1.output,Nat.le_trans h1.size h2.size,fun k hk a=>(h2.block k (Nat.lt_of_lt_of_le hk h1.size) a).trans (h1.block k hk a)⟩
theorem X2A(g:Nat): ∀ (vs:List Value) (o:Nat) (w:World),w.grownBy (w.setCells g o vs) (some g)
 | [],_,_=>⟨rfl,rfl,rfl,Nat.le_refl _,fun _ _ _=>rfl⟩
 | v::r,o,w=>Xhl (w1:=w.setCell ⟨g,o,none⟩ v) ⟨rfl,rfl,rfl,by simp,fun k _ hk=>heap_setCell_other w ⟨g,o,none⟩ k v (fun e=>hk (by simp [e]))⟩ (X2A g r (o+1) (w.setCell ⟨g,o,none⟩ v))
theorem XtW(w:World)(o:Obj)(vs1 vs2:List Value)(i j:Nat)(row:Option Nat):w.grownBy ((((w.alloc o).drew.setCells w.heap.size i vs1).drew).setCells w.heap.size j vs2) row:=by
 have h1:=World.grownBy_alloc w o none;refine⟨?_,?_,?_,?_,?_⟩
 ·exact((X2A w.heap.size vs2 j _).os.trans (X2A w.heap.size vs1 i (w.alloc o).drew).os)
 ·exact((X2A w.heap.size vs2 j _).tape.trans (X2A w.heap.size vs1 i (w.alloc o).drew).tape)
 ·exact((X2A w.heap.size vs2 j _).output.trans (X2A w.heap.size vs1 i (w.alloc o).drew).output)
 ·have a1:=(X2A w.heap.size vs1 i (w.alloc o).drew).size;have a2:=(X2A w.heap.size vs2 j (((w.alloc o).drew.setCells w.heap.size i vs1).drew)).size;have a3:w.heap.size≤(w.alloc o).drew.heap.size:=h1.size;exact Nat.le_trans a3 (Nat.le_trans a1 a2)
 ·intro k hk _;have b:some k≠some w.heap.size:=fun e=>by cases e;omega
  have a1:=(X2A w.heap.size vs1 i (w.alloc o).drew);have a2:=(X2A w.heap.size vs2 j (((w.alloc o).drew.setCells w.heap.size i vs1).drew));have a:k<(w.alloc o).drew.heap.size:=Nat.lt_of_lt_of_le hk h1.size;have c:k<(((w.alloc o).drew.setCells w.heap.size i vs1).drew).heap.size:=Nat.lt_of_lt_of_le a a1.size;exact(a2.block k c b).trans ((a1.block k a b).trans (h1.block k hk (by simp)))
theorem X7y{B g cap:Nat}{l:List Int}{w:World}{cur:Array Value}(hB:B≤g)(hg:w.heap[g]? =some (.cells cur 3))(hcap:cur.size=cap)(hlc:l.length≤cap)(hm:cap≤maxLen)
 (hc: ∀j u,l[j]? =some u→w.cell? ⟨g,j,none⟩=some (.int .i64 u)):OwnI B (.slice (some ⟨g,0,none⟩) l.length cap) l w:=by
 refine⟨by simp, .inr ⟨g,cap,cur,rfl,hB,hg,hlc,hm,by rw[hcap,Nat.mul_one],?_⟩⟩;rw[Nat.mul_one];refine List.ext_getElem (by simp;omega) fun j h1 h2=>?_;have hj:j<l.length:=by simpa using h2
 have:=hc j l[j] (List.getElem?_eq_getElem hj);simp only[World.cell?,hg,Option.isSome_none,Bool.false_eq_true,if_false] at this;rw[Array.getElem?_eq_getElem (by omega)] at this;simp only[List.getElem_take,Array.getElem_toList,List.getElem_map];exact Option.some.inj this
theorem XtX(B:Nat)(w:World)(l:List Int)(cap:Nat)(Z:Array Value)(hB:B≤w.heap.size)(hZ:Z.size=cap - l.length)(hlc:l.length≤cap)(hm:cap≤maxLen):
 OwnI B (.slice (some ⟨w.heap.size,0,none⟩) l.length cap) l (w.drew.alloc (.cells ((X3d l).toArray++Z) 3)):=by
 refine⟨by simp, .inr ⟨w.heap.size,cap,_,rfl,hB,heap_alloc_new w.drew _,hlc,hm,?_,?_⟩⟩
 ·simp only[Array.size_append,List.size_toArray,List.length_map,hZ];omega
 ·simp only[Array.toList_append,Nat.mul_one];rw[List.take_append_of_le_length (by simp)];exact List.take_of_length_le (by simp)
theorem Xnq(b o j:Nat):(⟨b,o,none⟩:Addr).add j=⟨b,o+j,none⟩:=by unfold Addr.add;split <;> simp_all
theorem X8W{w:World}{g:Nat}{cur:Array Value}{T:TypeId}(hg:w.heap[g]? =some (.cells cur T))(j:Nat)(hj:j<cur.size):(w.cell? ⟨g,j,none⟩).isSome=true:=by
 simp [World.cell?,hg,hj]
theorem Xfa(l:List Int)(k:Nat)(d:Int)(hk:k≤l.length)(j:Nat):(l.take k++d::l.drop k)[j]? =if j<k then l[j]? else if j=k then some d else l[j - 1]? :=by
 rw[List.getElem?_append,List.length_take,Nat.min_eq_left hk];by_cases h1:j<k
 ·rw[if_pos h1,if_pos h1,List.getElem?_take,if_pos h1]
 ·rw[if_neg h1,if_neg h1];by_cases h2:j=k
  ·rw[if_pos h2,h2,Nat.sub_self];rfl
  ·rw[if_neg h2];obtain⟨m,rfl⟩: ∃m,j=k+m+1:=⟨j - k - 1,by omega⟩;rw[show k+m+1 - k=m+1 by omega,List.getElem?_cons_succ,List.getElem?_drop,show k+m+1 - 1=k+m by omega]
theorem XtY{w:World}{g k:Nat}{cur:Array Value}{l:List Int}{d:Int}(hk:k≤l.length)(hg:w.heap[g]? =some (.cells cur 3))(hs:l.length+1≤cur.size)
 (hp: ∀j u,j<k→l[j]? =some u→w.cell? ⟨g,j,none⟩=some (.int .i64 u)):
 ∀j u,(l.take k++d::l.drop k)[j]? =some u→((w.setCells g (k+1) ((X3d l).drop k)).setCells g k [.int .i64 d]).cell? ⟨g,j,none⟩=some (.int .i64 u):=by
 intro j u hu;have hA:((X3d l).drop k).length=l.length - k:=by simp
 obtain⟨c1,a,c⟩:=X4O g 3 ((X3d l).drop k) (k+1) w cur hg;rw[Xfa l k d hk] at hu;by_cases h1:j<k
 ·rw[if_pos h1] at hu;rw[World.cell?_setCells_out g _ _ _ _ (fun _ _=>Or.inl h1),World.cell?_setCells_out g _ _ _ _ (fun _ _=>Or.inl (Nat.lt_succ_of_lt h1))];exact hp j u h1 hu
 ·rw[if_neg h1] at hu;by_cases h2:j=k
  ·subst h2;rw[if_pos rfl] at hu;have:=World.cell?_setCells_in g [.int .i64 d] j (w.setCells g (j+1) ((X3d l).drop j)) (fun i hi=>by
    have:i=0:=by simpa using hi
    subst this;exact X8W a _ (by omega)) 0 (by simp)
   simp only[Nat.add_zero] at this;rw[this];simp only[List.getElem_cons_zero];rw[Option.some.inj hu]
  ·rw[if_neg h2] at hu;rw[World.cell?_setCells_out g _ _ _ _ (fun _ _=>Or.inr (by simp;omega))];have b:j - 1<l.length:=(List.getElem?_eq_some_iff.1 hu).1;have:=World.cell?_setCells_in g ((X3d l).drop k) (k+1) w (fun i hi=>X8W hg _ (by rw[hA] at hi;omega)) (j - (k+1)) (by rw[hA];omega);rw[show k+1+(j - (k+1))=j by omega] at this;rw[this];have h3:=(List.getElem?_eq_some_iff.1 hu).2;simp only[List.getElem_drop,List.getElem_map];rw[←h3]
   congr 3
   omega
theorem Xxr{w:World}{g k:Nat}{cur:Array Value}{l:List Int}{d:Int}(hk:k≤l.length)(hg:w.heap[g]? =some (.cells cur 3))(hs:l.length+1≤cur.size)
 (hp: ∀j u,j<k→l[j]? =some u→w.cell? ⟨g,j,none⟩=some (.int .i64 u)):
 ∀j u,(l.take k++d::l.drop k)[j]? =some u→((w.setCells g k [.int .i64 d]).drew.setCells g (k+1) ((X3d l).drop k)).cell? ⟨g,j,none⟩=some (.int .i64 u):=by
 intro j u hu;have hA:((X3d l).drop k).length=l.length - k:=by simp
 obtain⟨c1,b,e⟩:=X4O g 3 [.int .i64 d] k w cur hg;have a:(w.setCells g k [.int .i64 d]).drew.heap[g]? =some (.cells c1 3):=b;rw[Xfa l k d hk] at hu;by_cases h1:j<k
 ·rw[if_pos h1] at hu;rw[World.cell?_setCells_out g _ _ _ _ (fun _ _=>Or.inl (Nat.lt_succ_of_lt h1))]
  show (w.setCells g k [.int .i64 d]).cell? ⟨g,j,none⟩=_
  rw[World.cell?_setCells_out g _ _ _ _ (fun _ _=>Or.inl h1)];exact hp j u h1 hu
 ·rw[if_neg h1] at hu;by_cases h2:j=k
  ·subst h2;rw[if_pos rfl] at hu;rw[World.cell?_setCells_out g _ _ _ _ (fun _ _=>Or.inl (Nat.lt_succ_self j))]
   show (w.setCells g j [.int .i64 d]).cell? ⟨g,j,none⟩=_
   have:=World.cell?_setCells_in g [.int .i64 d] j w (fun i hi=>by
    have:i=0:=by simpa using hi
    subst this;exact X8W hg _ (by omega)) 0 (by simp)
   simp only[Nat.add_zero] at this;rw[this];simp only[List.getElem_cons_zero];rw[Option.some.inj hu]
  ·rw[if_neg h2] at hu;have c:j - 1<l.length:=(List.getElem?_eq_some_iff.1 hu).1;have:=World.cell?_setCells_in g ((X3d l).drop k) (k+1) (w.setCells g k [.int .i64 d]).drew (fun i hi=>X8W a _ (by rw[hA] at hi;omega)) (j - (k+1)) (by rw[hA];omega);rw[show k+1+(j - (k+1))=j by omega] at this;rw[this];have h3:=(List.getElem?_eq_some_iff.1 hu).2;simp only[List.getElem_drop,List.getElem_map];rw[←h3]
   congr 3
   omega
theorem X87(B:Nat)(v:Value)(l:List Int)(k:Nat)(d:Int)(vb:Nat)(T:TypeId)(w:World)(hk:k≤l.length)(hl:l.length≤100000)(ho:OwnI B v l w)(hB:B≤w.heap.size)(hb:Blk w vb #[.int .i64 d] T)(hne:v.ownBlock≠some vb):
 Calls Tryz.prog 195 #[v, .int .i64 (k:Int), .slice (some ⟨vb,0,none⟩) 1 1] w fun e w'=>∃v',e= .returned v'∧OwnI B v' (l.take k++d::l.drop k) w'∧w.grownBy w' v.ownBlock∧Lies v' v w:=by
 have p: ∀j u,([Value.int .i64 d]:List Value)[j]? =some u→w.cell? ⟨vb,0+j,none⟩=some u:=by
  intro j u hu;cases j with
  | zero=>simp only[List.getElem?_cons_zero] at hu;rw[←hu];exact X00 hb 0 _ rfl
  | succ j=>simp at hu
 have f: ∀u∈([Value.int .i64 d]:List Value),u.oneCell'=true:=by intro u hu;rw[List.mem_singleton] at hu;subst hu;rfl
 have b:(l.take k++d::l.drop k).length=l.length+1:=by simp;omega
 have D:(Value.int .i64 0).cells.size=1:=rfl;rcases ho.2 with⟨rfl,h0⟩ | ⟨g,cap,r,rfl,F,hg,I,s,N,P⟩
 ·obtain rfl:l= []:=List.eq_nil_of_length_eq_zero h0;obtain rfl:k=0:=by simpa using hk
  refine(Any2.slices_Insert_int_end_grow Xe0 none 0 0 vb 0 1 1 [] [.int .i64 d] w (by omega) (by omega) (by omega) (by omega) rfl rfl (fun _=>rfl) (fun _ h=>by cases h) p f).mono ?_;rintro e w' ⟨rfl,rfl⟩;have n:=grownCap_ge w (0+1) 0 3;exact⟨_,rfl,XtX B w [d] (grownCap w (0+1) 0 3) (Builtin.zeroCells (Value.int .i64 0).cells (grownCap w (0+1) 0 3 - (0+1))) hB (by rw[size_zeroCells,D];simp) (by simpa using n) (grownCap_le_maxLen w _ _ _ (by unfold maxLen;omega)),⟨rfl,rfl,rfl,by simp,fun j hj _=>heap_alloc_old w.drew _ hj⟩, .inr ⟨_,rfl,Nat.le_refl _⟩⟩
 ·have z:=World.ownsRow.cells (g:=g) ho rfl;have c: ∀j u,(X3d l)[j]? =some u→w.cell? ⟨g,0+j,none⟩=some u:=by
   intro j u hu;have:=z j u hu;rwa [Xnq] at this
  have A:r.size=cap:=by rw[N,Nat.mul_one]
  have x: ∀j u,l[j]? =some u→w.cell? ⟨g,j,none⟩=some (.int .i64 u):=by
   intro j u hu;have:=c j (.int .i64 u) (by simp [hu]);rwa [Nat.zero_add] at this
  have G: ∀j,w.frozen? ⟨g,j,none⟩=false:=fun j=>by simp [World.frozen?,hg]
  have O:g≠vb:=fun e=>hne (by rw[e];rfl);by_cases hroom:l.length+1≤cap
  ·by_cases hkn:k=l.length
   ·subst hkn;refine(Any2.slices_Insert_int_end_room Xe0 g 0 l.length cap vb 0 1 1 [.int .i64 d] w (by omega) hroom (by unfold maxLen at s;omega) rfl (fun j hj=>X8W hg _ (by omega)) (fun j hj=>G _) p f).mono ?_;rintro e w' ⟨rfl,rfl⟩;obtain⟨c1,m,q⟩:=X4O g 3 [.int .i64 d] (0+l.length) w r hg;refine⟨_,rfl,?_,X2A g _ _ w, .inl rfl⟩;have:=X7y (l:=l.take l.length++d::l.drop l.length) F m (q.trans A) (by rw[b];exact hroom) s (by
     intro j u hu;rw[Xfa l l.length d (Nat.le_refl _)] at hu;by_cases h1:j<l.length
     ·rw[if_pos h1] at hu;rw[World.cell?_setCells_out g _ _ _ _ (fun _ _=>Or.inl (by show j<_;omega))];exact x j u hu
     ·rw[if_neg h1] at hu;by_cases h2:j=l.length
      ·rw[if_pos h2] at hu;have h3:=World.cell?_setCells_in g [.int .i64 d] (0+l.length) w (fun i hi=>X8W hg _ (by simp at hi;omega)) 0 (by simp);rw[show 0+l.length+0=j by omega] at h3;rw[h3];simp only[List.getElem_cons_zero];rw[Option.some.inj hu]
      ·rw[if_neg h2,List.getElem?_eq_none (by omega)] at hu;cases hu)
    rw[b] at this;exact this
   ·have hi:k<l.length:=by omega
    refine(Any2.slices_Insert_int_shift Xe0 g 0 l.length cap k vb 0 1 1 (X3d l) [.int .i64 d] w hi (by omega) hroom (by unfold maxLen at s;omega) (fun e=>O e.symm) (by simp) rfl c (fun j hj=>X8W hg _ (by omega)) (fun j hj=>G _) p (X0u l) f
     T 3 1 cap (by unfold Blk at hb;simp [World.shape?,hb]) (by simp [World.shape?,hg,A]) (by omega) (X06 hb 0) (X06 hb 1)).mono ?_
    rintro e w' ⟨rfl,rfl⟩;have H:w.drew.heap[g]? =some (.cells r 3):=hg;obtain⟨c1,m,q⟩:=X4O g 3 ((X3d l).drop k) (0+(k+1)) w.drew r H;obtain⟨c2,y,E⟩:=X4O g 3 [.int .i64 d] (0+k) _ _ m;refine⟨_,rfl,?_,Xhl (w1:=w.drew) ⟨rfl,rfl,rfl,Nat.le_refl _,fun _ _ _=>rfl⟩ (Xhl (X2A g _ _ _) (X2A g _ _ _)), .inl rfl⟩;have:=X7y (l:=l.take k++d::l.drop k) F y (E.trans (q.trans A)) (by rw[b];exact hroom) s (by
     rw[Nat.zero_add,Nat.zero_add];exact XtY hk H (by omega) (fun j u _ hu=>x j u hu))
    rw[b] at this;exact this
  ·by_cases hkn:k=l.length
   ·subst hkn;refine(Any2.slices_Insert_int_end_grow Xe0 (some ⟨g,0,none⟩) l.length cap vb 0 1 1 (X3d l) [.int .i64 d] w (by omega) I (by omega) (by omega) (by simp) rfl (fun h=>by cases h) (fun a ha j u hu=>by
     cases ha;rw[Xnq];exact c j u hu) p f).mono ?_
    rintro e w' ⟨rfl,rfl⟩;have n:=grownCap_ge w (l.length+1) cap 3;have M:X3d l++ [Value.int .i64 d]=X3d (l++ [d]):=by simp
    rw[List.take_length,List.drop_length,M];have:=XtX B w (l++ [d]) (grownCap w (l.length+1) cap 3) (Builtin.zeroCells (Value.int .i64 0).cells (grownCap w (l.length+1) cap 3 - (l.length+1))) hB (by rw[size_zeroCells,D];simp) (by simpa using n) (grownCap_le_maxLen w _ _ _ (by unfold maxLen;omega));rw[show (l++ [d]).length=l.length+1 by simp] at this;exact⟨_,rfl,this,⟨rfl,rfl,rfl,by simp,fun j hj _=>heap_alloc_old w.drew _ hj⟩, .inr ⟨_,rfl,Nat.le_refl _⟩⟩
   ·have hi:k<l.length:=by omega
    refine(Any2.slices_Insert_int_grow Xe0 g 0 l.length cap k vb 0 1 1 (X3d l) [.int .i64 d] w hi (by omega) I (by omega) (by omega) (by simp) rfl c p (X0u l) f).mono ?_;rintro e w' ⟨rfl,rfl⟩;have n:=grownCap_ge w (l.length+1) cap 3;simp only[show XyN.t 3=3 from rfl];refine⟨_,rfl,?_,XtW w _ _ _ _ _ _, .inr ⟨_,rfl,Nat.le_refl _⟩⟩;obtain⟨C,hC⟩: ∃C,((X3d l).take k).toArray++Builtin.zeroCells (Value.int .i64 0).cells (l.length+1 - k)++Builtin.zeroCells (Value.int .i64 0).cells (grownCap w (l.length+1) cap 3 - (l.length+1))=C:=⟨_,rfl⟩;have L:C.size=grownCap w (l.length+1) cap 3:=by
     rw[←hC];simp only[Array.size_append,size_zeroCells,D,List.size_toArray,List.length_take,List.length_map];omega
    have K: ∀j u,j<k→l[j]? =some u→C[j]? =some (.int .i64 u):=by
     intro j u hj hu;rw[←hC,Array.append_assoc,Array.getElem?_append_left (by simp;omega)];simp [hj,hu]
    rw[hC];have o:(w.alloc (.cells C 3)).drew.heap[w.heap.size]? =some (.cells C 3):=heap_alloc_new w _;obtain⟨c1,m,q⟩:=X4O w.heap.size 3 [.int .i64 d] k _ _ o;obtain⟨c2,y,E⟩:=X4O w.heap.size 3 ((X3d l).drop k) (k+1) ((w.alloc (.cells C 3)).drew.setCells w.heap.size k [.int .i64 d]).drew _ m;have:=X7y (l:=l.take k++d::l.drop k) hB y (E.trans (q.trans L)) (by rw[b];exact n) (grownCap_le_maxLen w _ _ _ (by unfold maxLen;omega)) (Xxr hk o (by omega) (fun j u hj hu=>by
     simp only[World.cell?,o,Option.isSome_none,Bool.false_eq_true,if_false];exact K j u hj hu))
    rw[b] at this;exact this
open Go.RowKit Go.Lib
namespace Nor
open Prp (mrkB cccI)
open Can
def rowI:List Int→List Int
 | []=> []
 | x::t=>if mrkB x=true then x::t else t
theorem Xc3{x:Int}(t:List Int)(hx:mrkB x=true):rowI (x::t)=x::t:=if_pos hx
theorem Xb5{x:Int}(t:List Int)(hx:mrkB x=false):rowI (x::t)=t:=if_neg (by rw[hx];simp)
theorem XAg(l:List Int):(rowI l).length≤l.length:=by
 cases l with
 | nil=>exact Nat.le_refl _
 |
  cons x t=>
  cases hx:mrkB x with
  | true=>rw[Xc3 t hx];exact Nat.le_refl _
  | false=>rw[Xb5 t hx];simp
theorem XtQ(bs:List Bool)(n:Nat):runB bs n≤n+bs.length:=by
 induction bs generalizing n with
 | nil=>simp [runB]
 |
  cons b t ih=>
  simp only[runB,List.length_cons];have:=ih (if b=true then n+1 else 0);cases b <;> simp at this ⊢ <;> omega
theorem XAh(bs:List Bool)(n:Nat)(h:bs.all id=true)(h0:bs≠ []):runB bs n=n+bs.length:=by
 induction bs generalizing n with
 | nil=>exact absurd rfl h0
 |
  cons b t ih=>
  simp only[List.all_cons,id,Bool.and_eq_true] at h;obtain⟨rfl,h⟩:=h;simp only[runB,if_true,List.length_cons];by_cases ht:t= []
  ·subst ht;simp [runB]
  ·rw[ih (n+1) h ht];omega
theorem Xxs(bs:List Bool)(n:Nat)(h:bs.all id=false):runB bs n<n+bs.length:=by
 induction bs generalizing n with
 | nil=>simp at h
 |
  cons b t ih=>
  cases b with
  |
   false=>
   have:=XtQ t 0;simp only[runB,Bool.false_eq_true,if_false,List.length_cons];omega
  |
   true=>
   simp only[List.all_cons,id,Bool.true_and] at h;have h2:=ih (n+1) h;have h3:t≠ []:=fun e=>by rw[e] at h;simp at h
   have h4:=List.length_pos_iff.2 h3;simp only[runB,if_true,List.length_cons];omega
theorem XjH(l:List Int):decide (X1D l=l.length)=l.all mrkB:=by
 unfold X1D;have he:(l.map mrkB).all id=l.all mrkB:=by simp [List.all_map]
 cases h:l.all mrkB with
 |
  true=>
  rw[h] at he;by_cases h0:l= []
  ·subst h0;simp [runB]
  ·have:=XAh (l.map mrkB) 0 he (by simpa using h0);rw[this];simp
 |
  false=>
  rw[h] at he;have:=Xxs (l.map mrkB) 0 he;rw[List.length_map] at this;exact decide_eq_false (by omega)
theorem XlR{x:Int}(t:List Int)(hx:mrkB x=false):X21 (x::t)=X21 t:=by
 unfold X21;rw[List.reverse_cons];have: ∀R:List Int,adjR (R++ [x])=adjR R:=by
  intro R
  induction R with
  | nil=>rfl
  |
   cons a R ih=>
   cases R with
   | nil=>simp [adjR,hx]
   | cons b R=>simp only[List.cons_append,adjR] at ih ⊢;rw[ih]
 exact this _
theorem XlS{l:List Int}(h:l.all mrkB=true):cntI l=l.length:=Xa5 (fun m hm=>List.all_eq_true.1 h m hm)
theorem Xnr(l:List Int):saneB l=(decide ((rowI l).length≤30) && decide (X1D (rowI l)=(rowI l).length) && X21 (rowI l)):=by
 rw[XjH];cases l with
 | nil=>rfl
 |
  cons x t=>
  unfold saneB;cases hx:mrkB x with
  |
   true=>
   have hr:rowI (x::t)=x::t:=Xc3 t hx;rw[hr,List.tail_cons,List.all_cons,hx,Bool.true_and];cases ht:t.all mrkB with
   | false=>simp
   |
    true=>
    have:=XlS (l:=x::t) (by rw[List.all_cons,hx,ht];rfl);rw[this];simp
  |
   false=>
   have hr:rowI (x::t)=t:=Xb5 t hx;rw[hr,List.tail_cons,XlR t hx];have hc:cntI (x::t)=cntI t:=by simp [cntI,hx]
   rw[hc];cases ht:t.all mrkB with
   | false=>simp
   | true=>rw[XlS ht];simp
theorem Xns{l:List Int}(h:Kept l):(rowI l).length=cntI l:=by
 have:=X7A h;rw[Xnr,Bool.and_eq_true,Bool.and_eq_true,XjH] at this;rw[←XlS this.1.2];cases l with
 | nil=>rfl
 |
  cons x t=>
  cases hx:mrkB x with
  | true=>rw[Xc3 t hx]
  | false=>rw[Xb5 t hx];simp [cntI,hx]
end Nor
theorem Xb6(v:Value)(l:List Int)(w:World)(hl:l.length≤100000)(hv:RI w v l):Calls Tryz.prog 99 #[v] w (Told (Nor.rowI l) w):=by
 obtain⟨p,cap,rfl⟩:=X0b hv;cases l with
 |
  nil=>
  replace hv:=hid hv;go_enter Tryz.func99,Tryz.ntmps99;go_wp2_with fail;go_ret;exact⟨_,rfl,hv.out,Below.refl _ _⟩
 |
  cons x t=>
  obtain⟨b,off,rfl,hb,c⟩:=ri_at hv (by simp);have hc:w.cell? ⟨b,off+0,none⟩=some (.int .i64 x):=c 0 (by simp);rw[Nat.add_zero] at hc;have i:=(Xfw hv).2.1;obtain⟨N,hN⟩: ∃N,(x::t).length=N:=⟨_,rfl⟩;have d:=XgN hv 1 (by simp) (by simp);simp only[List.drop_one,List.tail_cons] at d;rw[hN] at d hv i hl ⊢;have h0:0<(N:Int):=by simp at hN;omega
  have h1:1≤N:=by omega
  have n:(1:Int)≤(N:Int):=by omega
  cases f:Prp.mrkB x with
  |
   true=>
   have hr:Nor.rowI (x::t)=x::t:=Nor.Xc3 t f;rw[hr];have g:=hid (X4T x true f);replace hv:=hid hv;replace hN:=hid hN;clear f hr d c;go_enter Tryz.func99,Tryz.ntmps99;go_wp2_with fail;refine(g.out _).mono ?_;rintro e w2 ⟨rfl,a⟩;have m:=hid (X03 hv.out a);replace a:=hid a;go_wp2_with fail;go_ret;exact⟨_,rfl,m.out,a.out⟩
  |
   false=>
   have hr:Nor.rowI (x::t)=t:=Nor.Xb5 t f;rw[hr];have g:=hid (X4T x false f);have ht:t.length=N - 1:=by simp at hN;omega
   replace hv:=hid hv;replace hN:=hid hN;by_cases hc1:cap=1
   ·subst hc1;obtain rfl:N=1:=by omega
    have k:t= []:=List.eq_nil_of_length_eq_zero (by omega);replace ht:=hid ht;replace d:=hid d;clear f hr c;go_enter Tryz.func99,Tryz.ntmps99;go_wp2_with fail;refine(g.out _).mono ?_;rintro e w2 ⟨rfl,a⟩;replace a:=hid a;go_wp2_with fail;go_ret;subst k;exact⟨_,rfl,Xt3 _ _ _ (fun h=>by cases h),a.out⟩
   ·have o: ¬cap=1:=hc1;have q:(cap == 1)=false:=beq_eq_false_iff_ne.2 hc1;replace ht:=hid ht;replace d:=hid d;clear f hr c;go_enter Tryz.func99,Tryz.ntmps99;go_wp2_with fail;refine(g.out _).mono ?_;rintro e w2 ⟨rfl,a⟩;have j:=hid (X03 d.out a);replace a:=hid a;go_wp2_with fail;go_ret;exact⟨_,rfl,j.out,a.out⟩
theorem Xe1:Xe8:=by
 intro v l w hl hv;obtain⟨p,cap,rfl⟩:=X0b hv;have f:=X0g w #[.slice p l.length cap] 41;have d:=X04 w (.cells #[.slice p l.length cap] 41);obtain⟨W,hW⟩: ∃W,w.alloc (.cells #[.slice p l.length cap] 41)=W:=⟨_,rfl⟩;have n:=X03 hv d;rw[hW] at f d n;rw[Nor.Xnr];have j:=Xb6 (.slice p l.length cap) l W (by omega) n;have s:=Nor.XAg l;obtain⟨R,hR⟩: ∃R,Nor.rowI l=R:=⟨_,rfl⟩;rw[hR] at j s ⊢;have k:=fun V (W:World) h=>XaI V R W (by omega) h;have m:=fun V (W:World) h=>XcH V R W (by omega) h;obtain⟨M,hM⟩: ∃M,Can.X1D R=M:=⟨_,rfl⟩;obtain⟨S,hS⟩: ∃S,Can.X21 R=S:=⟨_,rfl⟩;rw[hM] at k ⊢;rw[hS] at m ⊢
 replace k:=hid k;replace m:=hid m;replace j:=hid j;replace hW:=hid hW;replace d:=hid d;replace f:=hid f;replace n:=hid n;have x:R.length≤10000:=by omega
 clear hv hM hS hR s;by_cases h30:R.length≤30
 ·have o:(R.length:Int)≤30:=by omega
  by_cases g:M=R.length
  ·have r:((M:Int) == (R.length:Int))=true:=X4u g;have a:(decide (R.length≤30) && decide (M=R.length) && S)=S:=by rw[decide_eq_true h30,decide_eq_true g];rfl
   rw[a];replace a:=hid a;replace g:=hid g;go_enter Tryz.func75,Tryz.ntmps75;go_upto_region 1 with(fail);rw[hW.out];have b0:=X00 f.out 0 _ rfl;go_wp2_with fail;refine j.out.mono ?_;rintro e w2 ⟨v2,rfl,b,c⟩;obtain⟨p2,c2,rfl⟩:=X0b b;replace b:=hid b;replace c:=hid (d.out.trans (c.mono d.out.size));clear b0;go_wp2_with fail;refine(k.out _ _ b.out).mono ?_;rintro e w3 ⟨rfl,i⟩;have u:=hid (X03 b.out i);replace i:=hid (X05 c.out i);go_wp2_with fail;refine(m.out _ _ u.out).mono ?_;rintro e w4 ⟨rfl,q⟩;replace q:=hid (X05 i.out q);go_wp2_with fail;go_ret;exact⟨rfl,q.out⟩
  ·have r:((M:Int) == (R.length:Int))=false:=X5i g;have a:(decide (R.length≤30) && decide (M=R.length) && S)=false:=by rw[decide_eq_false g];simp
   rw[a];replace a:=hid a;replace g:=hid g;go_enter Tryz.func75,Tryz.ntmps75;go_upto_region 1 with(fail);rw[hW.out];have b0:=X00 f.out 0 _ rfl;go_wp2_with fail;refine j.out.mono ?_;rintro e w2 ⟨v2,rfl,b,c⟩;obtain⟨p2,c2,rfl⟩:=X0b b;replace b:=hid b;replace c:=hid (d.out.trans (c.mono d.out.size));clear b0;go_wp2_with fail;refine(k.out _ _ b.out).mono ?_;rintro e w3 ⟨rfl,i⟩;replace i:=hid (X05 c.out i);go_wp2_with fail;go_ret;exact⟨rfl,i.out⟩
 ·have o: ¬(R.length:Int)≤30:=by omega
  have t:decide ((R.length:Int)≤30)=false:=decide_eq_false o;have a:(decide (R.length≤30) && decide (M=R.length) && S)=false:=by rw[decide_eq_false h30];simp
  rw[a];replace a:=hid a;go_enter Tryz.func75,Tryz.ntmps75;go_upto_region 1 with(fail);rw[hW.out];have b0:=X00 f.out 0 _ rfl;go_wp2_with fail;refine j.out.mono ?_;rintro e w2 ⟨v2,rfl,b,c⟩;obtain⟨p2,c2,rfl⟩:=X0b b;replace c:=hid (d.out.trans (c.mono d.out.size));clear b0 b;go_wp2_with fail;go_ret;exact⟨rfl,c.out⟩
theorem XtZ(v:Value)(l:List Int)(w:World)(hl:l.length≤100000)(hv:RI w v l):Calls Tryz.prog 60 #[v] w (Makes l w):=by
 rcases hv with⟨rfl,rfl⟩ | ⟨a,cap,rfl,d,hc⟩
 ·refine(Tryz.slices_Clone_int_nil 0 0 w).mono ?_;rintro e w' ⟨rfl,rfl⟩;exact⟨_,rfl,X0O _ _,Below.refl _ _⟩
 ·by_cases h0:l.length=0
  ·obtain rfl:l= []:=List.eq_nil_of_length_eq_zero h0;refine(Tryz.slices_Clone_int_zero a cap w).mono ?_;rintro e w' ⟨v',rfl,h1,_,h2⟩;exact⟨v',rfl,h1,h2⟩
  ·obtain⟨b,off,rfl,hb,c⟩:=hc (by omega);refine(Tryz.slices_Clone_int b off l.length cap l w (Nat.le_refl _) (by omega) (fun j hj=>by rw[c j hj];simp [List.getD,hj])).mono ?_;rintro e w' ⟨v',rfl,h1,_,h2⟩;rw[List.take_length] at h1;exact⟨v',rfl,h1,h2⟩
def wellI(l:List Int):List Int:=if Nor.saneB l=true then l else []
theorem XjI(l:List Int):Nor.Kept (wellI l):=by
 unfold wellI
 split
 ·rename_i h;exact Nor.Xa3 h
 ·exact Nor.Xa4
theorem Xxt(l:List Int):Nor.endI l=Can.X0s (wellI l):=by
 unfold Nor.endI wellI
 split <;> rfl
theorem XfK(v:Value)(l:List Int)(w:World)(hl:l.length≤10000)(hv:RI w v l):Calls Tryz.prog 140 #[.agg #[v]] w fun e w'=>∃va,e= .returned (.agg #[va])∧OwnI w.heap.size va (wellI l) w'∧Below w.heap.size w w':=by
 obtain⟨p,cap,rfl⟩:=X0b hv;have h:=X0g w #[.slice p l.length cap] 41;have c:=X0l h (.cells #[.slice none 0 0] 41);have d:=X0g (w.alloc (.cells #[.slice p l.length cap] 41)) #[.slice none 0 0] 41;rw[show (w.alloc (.cells #[.slice p l.length cap] 41)).heap.size=w.heap.size+1 by simp] at d;have f:Below w.heap.size w ((w.alloc (.cells #[.slice p l.length cap] 41)).alloc (.cells #[.slice none 0 0] 41)):=(X04 w _).alloc (by simp) _;obtain⟨W,hW⟩: ∃W,(w.alloc (.cells #[.slice p l.length cap] 41)).alloc (.cells #[.slice none 0 0] 41)=W:=⟨_,rfl⟩;have j:=X03 hv f;rw[hW] at c d f j
 have a:=Xe1 (.slice p l.length cap) l W hl j;unfold wellI;replace c:=hid c;replace d:=hid d;replace f:=hid f;replace j:=hid j;replace hW:=hid hW;clear hv h;cases hS:Nor.saneB l with
 |
  true=>
  rw[if_pos rfl];rw[hS] at a;replace a:=hid a;clear hS;go_enter Tryz.func140,Tryz.ntmps140;go_upto_region 1 with(fail);rw[hW.out];have b0:=X00 c.out 0 _ rfl;go_wp2_with fail;refine a.out.mono ?_;rintro e w2 ⟨rfl,b⟩;have n:=X02 c.out b;have c2:=X00 n 0 _ rfl;have r:=hid (XtZ (.slice p l.length cap) l w2 (by omega) (X03 j.out b));have g:=hid (X02 d.out b);replace b:=hid (f.out.trans (b.mono f.out.size));clear b0 n;go_wp2_with fail;refine r.out.mono ?_;rintro e w3 ⟨v3,rfl,m,o⟩;have i:=X02 g.out o;have c3:=X00 i 0 _ rfl;have f3:=X06 i 0;obtain⟨p3,k,rfl⟩:=X0b (X0a m)
  have s:w.heap.size+1<w2.heap.size:=X1h g.out;have x:=hid (X7z (u:= .slice p3 l.length k) i);have y:=hid (X0w (X1d m ⟨w.heap.size+1,0,none⟩ (.slice p3 l.length k) (X2S m s)) (show w.heap.size≤w2.heap.size by omega));have q:=hid ((X05 b.out o).setCell (p:=⟨w.heap.size+1,0,none⟩) (Nat.le_succ _) (.slice p3 l.length k));replace i:=hid i;clear c2 o m;go_wp2_with fail;have d4:=X00 x.out 0 _ rfl;refine bodyPost_ret (v:= .agg #[.slice p3 l.length k]) ?_ rfl ⟨_,rfl,y.out,q.out⟩;simp [results,Tryz.results140,go_sem,d4]
 |
  false=>
  rw[if_neg (by simp)];rw[hS] at a;replace a:=hid a;clear hS;go_enter Tryz.func140,Tryz.ntmps140;go_upto_region 1 with(fail);rw[hW.out];have b0:=X00 c.out 0 _ rfl;go_wp2_with fail;refine a.out.mono ?_;rintro e w2 ⟨rfl,b⟩;have g:=X02 d.out b;have c2:=X00 g 0 _ rfl;have f2:=X06 g 0;have t:=hid (X7z (u:= .slice none 0 0) g);have q:=hid ((f.out.trans (b.mono f.out.size)).setCell (p:=⟨w.heap.size+1,0,none⟩) (Nat.le_succ _) (.slice none 0 0));replace g:=hid g;clear b0 b;go_wp2_with fail;have d4:=X00 t.out 0 _ rfl;refine bodyPost_ret (v:= .agg #[.slice none 0 0]) ?_ rfl ⟨_,rfl,X0O _ _,q.out⟩
  simp [results,Tryz.results140,go_sem,d4]
open Go.RowKit Go.Lib
namespace Nor
open Prp (mrkB cccI)
open Can
theorem XcL{r:Int}(A C:List Int)(h: ∀x∈A,cccI r<cccI x):insR r (A++C)=A++insR r C:=by
 induction A with
 | nil=>rfl
 |
  cons x t ih=>
  have hx:=h x (List.mem_cons_self ..);have h0:=(Prp.Xq6 r).1;rw[List.cons_append,insR,if_pos ⟨(X5O x).2 (by omega),hx⟩,ih fun y hy=>h y (List.mem_cons_of_mem _ hy)];rfl
theorem Xhm{l:List Int}{d:Int}{k:Nat}(hk:k≤l.length)(h1: ∀x∈l.drop k,cccI d<cccI x)(h2: ∀h:0<k,¬cccI d<cccI (l[k - 1]'(by omega))):insI l d=l.take k++d::l.drop k:=by
 unfold insI;have e:l.reverse=(l.drop k).reverse++(l.take k).reverse:=by rw[←List.reverse_append,List.take_append_drop]
 rw[e,XcL _ _ (fun x hx=>h1 x (List.mem_reverse.1 hx))];have:insR d (l.take k).reverse=d::(l.take k).reverse:=by
  cases k with
  | zero=>rfl
  |
   succ k=>
   have h3:=h2 (by omega);simp only[Nat.add_sub_cancel] at h3;have h4:l.take (k+1)=l.take k++ [l[k]'(by omega)]:=by rw[List.take_succ_eq_append_getElem (by omega)]
   rw[h4,List.reverse_append,List.reverse_singleton,List.singleton_append,insR,if_neg (fun h=>h3 h.2)]
 rw[this];simp
theorem Xu0{l:List Int}{x d:Int}(h:X0s l= [x])(hx:mrkB x=false):headI l d=match Par.joinI x d with | some v=>([v],[]) | none=>([d],[x]):=by
 unfold headI;rw[h];simp only[if_pos hx];cases Par.joinI x d <;> rfl
theorem XpK{l:List Int}{x d:Int}(h:X0s l= [x])(hx:mrkB x=true):headI l d=([d],[x]):=by
 unfold headI;rw[h];simp only[hx,Bool.true_eq_false,if_false]
theorem XpL{l:List Int}{d:Int}(h:(X0s l).length≠1):headI l d=([d],X0s l):=by
 unfold headI
 split
 ·rename_i x e;rw[e] at h;simp at h
 ·rfl
end Nor
theorem Xnt{w:World}{b:Nat}{x y u:Value}{T:TypeId}(h:Blk w b #[x,y] T):Blk (w.setCell ⟨b,0,none⟩ u) b #[u,y] T:=by
 have:=heap_setCell_same w b 0 #[x,y] T u h;unfold Blk;simpa using this
theorem Xxu{w:World}{b:Nat}{x y u:Value}{T:TypeId}(h:Blk w b #[x,y] T):Blk (w.setCell ⟨b,1,none⟩ u) b #[x,u] T:=by
 have:=heap_setCell_same w b 1 #[x,y] T u h;unfold Blk;simpa using this
theorem X5m{B b:Nat}{v:Value}{l:List Int}{w:World}{cs:Array Value}(h:OwnI B v l w)(hb:Blk w b cs 169):v.ownBlock≠some b:=by
 intro e;rcases h.2 with⟨rfl,_⟩ | ⟨g,cap,a,rfl,_,hg,_⟩
 ·cases e
 ·cases e;unfold Blk at hb;rw[hb] at hg;injection hg with hg;injection hg with _ hg;exact absurd hg (by decide)
theorem X88{B b:Nat}{v:Value}{l:List Int}{w:World}{cs:Array Value}(h:OwnI B v l w)(hb:Blk w b cs 169):v.ownBlock=none∨v.ownBlock≠some b:= .inr (X5m h hb)
structure At9 (B b:Nat) (g:Option Nat) (w0:World) (l t:List Int) (vl vt:Value) (w:World):Prop where
 box:Blk w b #[vl,vt] 169
 kept:OwnI B vl l w
 told:OwnI B vt t w
 base:B≤b
 apart:vl.ownBlock=none∨vl.ownBlock≠vt.ownBlock
 off: ∀j,g=some j→vl.ownBlock≠some j∧vt.ownBlock≠some j∧b≠j∧j<w.heap.size
 below:Below B w0 w
 same: ∀j,g=some j→w.heap[j]? =w0.heap[j]?
namespace At9
variable {B b:Nat} {g:Option Nat} {w0 w w1:World} {l t c:List Int} {vl vt v1:Value} {x:Int}
theorem size(h:At9 B b g w0 l t vl vt w):B≤w.heap.size:=Nat.le_of_lt (Nat.lt_of_le_of_lt h.base (X1h h.box))
theorem go(h:At9 B b g w0 l t vl vt w)(hb:Below w.heap.size w w1):At9 B b g w0 l t vl vt w1 where
 box:=X02 h.box hb
 kept:=X0x h.kept hb
 told:=X0x h.told hb
 base:=h.base
 apart:=h.apart
 off:=fun j hj=>⟨(h.off j hj).1,(h.off j hj).2.1,(h.off j hj).2.2.1,Nat.lt_of_lt_of_le (h.off j hj).2.2.2 hb.size⟩
 below:=h.below.trans (hb.mono h.size)
 same:=fun j hj=>(hb.block j (h.off j hj).2.2.2).trans (h.same j hj)
theorem new(h:At9 B b g w0 l t vl vt w)(o:Obj):At9 B b g w0 l t vl vt (w.alloc o):=h.go (X04 w o)
theorem put0(h:At9 B b g w0 l t vl vt w)(ho:OwnI B v1 c w)(ha:v1.ownBlock=none∨v1.ownBlock≠vt.ownBlock)(hj: ∀j,g=some j→v1.ownBlock≠some j):At9 B b g w0 c t v1 vt (w.setCell ⟨b,0,none⟩ v1) where
 box:=Xnt h.box
 kept:=X1d ho _ _ (X88 ho h.box)
 told:=X1d h.told _ _ (X88 h.told h.box)
 base:=h.base
 apart:=ha
 off:=fun j e=>⟨hj j e,(h.off j e).2.1,(h.off j e).2.2.1,by simpa using (h.off j e).2.2.2⟩
 below:=h.below.setCell (p:=⟨b,0,none⟩) h.base v1
 same:=fun j e=>(Below.heap_setCell w ⟨b,0,none⟩ v1 j (fun e'=>(h.off j e).2.2.1 e'.symm)).trans (h.same j e)
theorem one(h:At9 B b g w0 l t vl vt w):At9 B b g w0 [x] t (.slice (some ⟨w.heap.size,0,none⟩) 1 1) vt ((w.alloc (.cells #[.int .i64 x] 3)).setCell ⟨b,0,none⟩ (.slice (some ⟨w.heap.size,0,none⟩) 1 1)):=by
 refine(h.new _).put0 (X0H B w [x] #[.int .i64 x] w.heap.size 1 rfl h.size rfl rfl (by unfold maxLen;omega)) (.inr fun e=>?_) (fun j e e'=>?_)
 ·have:=(World.ownsRow.lt h.told w.heap.size e.symm).2;omega
 ·have:=(h.off j e).2.2.2;have e2:w.heap.size=j:=by cases e';rfl
  omega
theorem tell(h:At9 B b g w0 l t vl vt w)(ho:OwnI B v1 c w1)(hg:w.grownBy w1 vt.ownBlock)(hli:Lies v1 vt w):At9 B b g w0 l c vl v1 (w1.setCell ⟨b,1,none⟩ v1):=by
 have a:=X2B h.box hg (fun e=>X5m h.told h.box e.symm);have d:OwnI B vl l w1:=World.ownsRow.kept h.kept hg h.apart;refine⟨Xxu a,X1d d _ _ (X88 d a),X1d ho _ _ (X88 ho a),h.base,X68 h.kept h.apart hli,fun j e=>⟨(h.off j e).1,fun e'=>?_,(h.off j e).2.2.1,?_⟩,(X0k h.below hg h.size h.told (Nat.le_refl _)).setCell (p:=⟨b,1,none⟩) h.base v1,fun j e=>?_⟩
 ·rcases hli with h1 | ⟨k,h1,h2⟩
  ·exact(h.off j e).2.1 (h1.symm.trans e')
  ·rw[h1] at e';cases e';have:=(h.off j e).2.2.2;omega
 ·have:=Nat.lt_of_lt_of_le (h.off j e).2.2.2 hg.size;simpa using this
 ·exact(Below.heap_setCell w1 ⟨b,1,none⟩ v1 j (fun e'=>(h.off j e).2.2.1 e'.symm)).trans ((hg.block j (h.off j e).2.2.2 (fun e'=>(h.off j e).2.1 e'.symm)).trans (h.same j e))
theorem grew(h:At9 B b g w0 l t vl vt w)(ho:OwnI B v1 c w1)(hg:w.grownBy w1 vl.ownBlock)(hli:Lies v1 vl w):At9 B b g w0 c t v1 vt (w1.setCell ⟨b,0,none⟩ v1):=by
 have d:vt.ownBlock=none∨vt.ownBlock≠vl.ownBlock:=by
  rcases h.apart with h1 | h1
  ·cases h2:vt.ownBlock with
   | none=>exact .inl rfl
   | some k=>rw[h1];exact .inr (fun e=>by cases e)
  ·exact .inr fun e=>h1 e.symm
 have a:=X2B h.box hg (fun e=>X5m h.kept h.box e.symm);have i:OwnI B vt t w1:=World.ownsRow.kept h.told hg d;have f:v1.ownBlock=none∨v1.ownBlock≠vt.ownBlock:=by
  rcases X68 h.told d hli with h1 | h1
  ·cases h2:v1.ownBlock with
   | none=>exact .inl rfl
   | some k=>rw[h1];exact .inr (fun e=>by cases e)
  ·exact .inr fun e=>h1 e.symm
 refine⟨Xnt a,X1d ho _ _ (X88 ho a),X1d i _ _ (X88 i a),h.base,f,fun j e=>⟨fun e'=>?_,(h.off j e).2.1,(h.off j e).2.2.1,?_⟩,(X0k h.below hg h.size h.kept (Nat.le_refl _)).setCell (p:=⟨b,0,none⟩) h.base v1,fun j e=>?_⟩
 ·rcases hli with h1 | ⟨k,h1,h2⟩
  ·exact(h.off j e).1 (h1.symm.trans e')
  ·rw[h1] at e';cases e';have:=(h.off j e).2.2.2;omega
 ·have:=Nat.lt_of_lt_of_le (h.off j e).2.2.2 hg.size;simpa using this
 ·exact(Below.heap_setCell w1 ⟨b,0,none⟩ v1 j (fun e'=>(h.off j e).2.2.1 e'.symm)).trans ((hg.block j (h.off j e).2.2.2 (fun e'=>(h.off j e).1 e'.symm)).trans (h.same j e))
theorem since{w2:World}{l' t':List Int}{ul ut:Value}(h:At9 B b g w0 l t vl vt w)(k:At9 B b g w l' t' ul ut w2):At9 B b g w0 l' t' ul ut w2:=
 ⟨k.box,k.kept,k.told,k.base,k.apart,k.off,h.below.trans k.below,fun j e=>(k.same j e).trans (h.same j e)⟩
theorem here(h:At9 B b g w0 l t vl vt w):At9 B b g w l t vl vt w:=⟨h.box,h.kept,h.told,h.base,h.apart,h.off,Below.refl _ _,fun _ _=>rfl⟩
end At9
def Puts(B b:Nat)(g:Option Nat)(l t:List Int)(w:World)(e:Ending)(w':World):Prop:=e= .returned (.tuple #[])∧∃vl vt,At9 B b g w l t vl vt w'
theorem Xe2(B b:Nat)(g:Option Nat)(l t:List Int)(d:Int)(vl vt:Value)(w:World)(hl:l.length≤10000)(ht:t.length≤10000000)(hp:At9 B b g w l t vl vt w):Calls Tryz.prog 171 #[.pointer (some ⟨b,0,none⟩), .int .i64 d] w (Puts B b g (Nor.headI l d).1 (t++(Nor.headI l d).2) w):=by
 obtain⟨i0,hi,G,H,I⟩:=info_parts X2p;obtain⟨pl,cl,rfl⟩:=X0b (X0a hp.kept);obtain⟨pt,ct,rfl⟩:=X0b (X0a hp.told);have z:=hid (X7c XEo XEp _ l w (by omega) (X0a hp.kept));have L:=Can.X1k l;have h1:=fun x=>@Nor.Xu0 l x d;have h2:=fun x=>@Nor.XpK l x d;have h3:=@Nor.XpL l d;obtain⟨c,hc⟩: ∃c,Can.X0s l=c:=⟨_,rfl⟩;rw[hc] at z L h1 h2 h3;clear hc;have b0:=X00 hp.box 0 _ rfl;replace hp:=hid hp;by_cases hc1:c.length=1
 ·obtain⟨x,rfl⟩: ∃x,c= [x]:=List.length_eq_one_iff.1 hc1;clear hc1 h3;cases s:Prp.mrkB x with
  |
   true=>
   rw[h2 x rfl s];have D:=hid (fun W=>X4T x true s W);clear h1 h2 s;go_enter Tryz.func171,Tryz.ntmps171;go_wp2_with fail;refine z.out.mono ?_;rintro e w1 ⟨v1,rfl,f,o⟩;obtain⟨p1,c1,rfl⟩:=X0b f;obtain⟨g1,o1,rfl,A,k⟩:=ri_at f (by simp);have c0:=k 0 (by simp);simp only[List.length_singleton,List.getElem_cons_zero,Nat.add_zero] at c0 f ⊢;replace f:=hid f;have hq:=hid (hp.out.go o);clear k b0 o;go_wp2_with fail;refine(D.out _).mono ?_;rintro e w2 ⟨rfl,j⟩;have q:=hid (hq.out.go j);have u:=hid (X03 f.out j);have c2:=(j.cell (p:=⟨g1,o1,none⟩) A).trans c0;have E:=hid j;clear j c0 hq;have h:=q
   have C:=hid (X0Y u.out);have d1:=X00 h.out.box 1 _ rfl
   go_upto_region 6 with(at_builtin;refine X1i rfl _ _ 24 rfl B 3 i0 (.int .i64 0) 8 Tryz.underlying24 hi G H I rfl _ _ _ rfl h.out.told _ _ rfl C.out (X0u _) (by rw[List.length_map];unfold maxLen;first | omega | (simp;omega)) (by rw[List.length_map];first | omega | (simp;omega)) h.out.size ?_;intro v5 w5 m a i;have q5:=hid (h.out.tell (X0i (l:=t++ [x]) m (by simp) (by simp)) a i);obtain⟨T5,n⟩: ∃T5,t++ [x]=T5:=⟨_,rfl⟩;rw[n] at q5;replace n:=hid n;obtain⟨p5,v,rfl⟩:=X0b (X0a q5.out.told);have k5:=X2B h.out.box a (fun e=>X5m h.out.told h.out.box e.symm);have e5:=X00 k5 1 _ rfl;have f5:=X06 k5 1;clear m a i k5)
   obtain⟨W,hW⟩: ∃W,w5.setCell ⟨b,1,none⟩ (.slice p5 T5.length v)=W:=⟨_,rfl⟩;rw[hW] at q5;rw[hW];have q6:=q5.out.new (.cells #[.int .i64 d] 3);have e6:=X00 q6.box 0 _ rfl;have f6:=X06 q6.box 0;replace q6:=hid q6;clear hW e5 f5;go_wp2_with fail
   go_end0
   have hT:=n.out;subst hT;exact⟨rfl,_,_,q5.out.one⟩
  |
   false=>
   have hh:=h1 x rfl s;have D:=hid (fun W=>X4T x false s W);clear h1 h2 s;cases hj:Par.joinI x d with
   |
    none=>
    rw[hj] at hh;rw[hh];have F:=hid (XEp x d hj);clear hh hj;go_enter Tryz.func171,Tryz.ntmps171;go_wp2_with fail;refine z.out.mono ?_;rintro e w1 ⟨v1,rfl,f,o⟩;obtain⟨p1,c1,rfl⟩:=X0b f;obtain⟨g1,o1,rfl,A,k⟩:=ri_at f (by simp);have c0:=k 0 (by simp);simp only[List.length_singleton,List.getElem_cons_zero,Nat.add_zero] at c0 f ⊢;replace f:=hid f;have hq:=hid (hp.out.go o);clear k b0 o;go_wp2_with fail;refine(D.out _).mono ?_;rintro e w2 ⟨rfl,j⟩;have q:=hid (hq.out.go j);have u:=hid (X03 f.out j);have c2:=(j.cell (p:=⟨g1,o1,none⟩) A).trans c0;have E:=hid j;clear j c0 hq;go_wp2_with fail
    refine(F.out _).mono ?_;rintro e w3 ⟨rfl,r⟩;have h:=hid (q.out.go r);have C:=hid (X0Y (X03 u.out r));have d1:=X00 h.out.box 1 _ rfl;clear r q u c2
    go_upto_region 6 with(at_builtin;refine X1i rfl _ _ 24 rfl B 3 i0 (.int .i64 0) 8 Tryz.underlying24 hi G H I rfl _ _ _ rfl h.out.told _ _ rfl C.out (X0u _) (by rw[List.length_map];unfold maxLen;first | omega | (simp;omega)) (by rw[List.length_map];first | omega | (simp;omega)) h.out.size ?_;intro v5 w5 m a i;have q5:=hid (h.out.tell (X0i (l:=t++ [x]) m (by simp) (by simp)) a i);obtain⟨T5,n⟩: ∃T5,t++ [x]=T5:=⟨_,rfl⟩;rw[n] at q5;replace n:=hid n;obtain⟨p5,v,rfl⟩:=X0b (X0a q5.out.told);have k5:=X2B h.out.box a (fun e=>X5m h.out.told h.out.box e.symm);have e5:=X00 k5 1 _ rfl;have f5:=X06 k5 1;clear m a i k5)
    obtain⟨W,hW⟩: ∃W,w5.setCell ⟨b,1,none⟩ (.slice p5 T5.length v)=W:=⟨_,rfl⟩;rw[hW] at q5;rw[hW];have q6:=q5.out.new (.cells #[.int .i64 d] 3);have e6:=X00 q6.box 0 _ rfl;have f6:=X06 q6.box 0;replace q6:=hid q6;clear hW e5 f5;go_wp2_with fail
    go_end0
    have hT:=n.out;subst hT;exact⟨rfl,_,_,q5.out.one⟩
   |
    some y=>
    rw[hj] at hh;rw[hh];have F:=hid (XEo x d y hj);clear hh hj;go_enter Tryz.func171,Tryz.ntmps171;go_wp2_with fail;refine z.out.mono ?_;rintro e w1 ⟨v1,rfl,f,o⟩;obtain⟨p1,c1,rfl⟩:=X0b f;obtain⟨g1,o1,rfl,A,k⟩:=ri_at f (by simp);have c0:=k 0 (by simp);simp only[List.length_singleton,List.getElem_cons_zero,Nat.add_zero] at c0 f ⊢;replace f:=hid f;have hq:=hid (hp.out.go o);clear k b0 o;go_wp2_with fail;refine(D.out _).mono ?_;rintro e w2 ⟨rfl,j⟩;have q:=hid (hq.out.go j);have u:=hid (X03 f.out j);have c2:=(j.cell (p:=⟨g1,o1,none⟩) A).trans c0;have E:=hid j;clear j c0 hq;go_wp2_with fail
    refine(F.out _).mono ?_;rintro e w3 ⟨rfl,r⟩;have K:=hid (q.out.go r);have q6:=K.out.new (.cells #[.int .i64 y] 3);have e6:=X00 q6.box 0 _ rfl;have f6:=X06 q6.box 0;replace q6:=hid q6;clear r q u c2;go_wp2_with fail;refine bodyPost_ret (results_none rfl _ _ _) rfl ?_;rw[List.append_nil];exact⟨rfl,_,_,K.out.one⟩
 ·rw[h3 hc1];have M:((c.length:Int) == 1)=false:=beq_eq_false_iff_ne.2 (by omega);clear h1 h2 h3 hc1;go_enter Tryz.func171,Tryz.ntmps171;go_wp2_with fail;refine z.out.mono ?_;rintro e w1 ⟨v1,rfl,f,o⟩;obtain⟨p1,c1,rfl⟩:=X0b f;have h:=hid (hp.out.go o);have C:=hid (X0Y f);have d1:=X00 h.out.box 1 _ rfl;clear b0 f o
  go_upto_region 6 with(at_builtin;refine X1i rfl _ _ 24 rfl B 3 i0 (.int .i64 0) 8 Tryz.underlying24 hi G H I rfl _ _ _ rfl h.out.told _ _ rfl C.out (X0u _) (by rw[List.length_map];unfold maxLen;first | omega | (simp;omega)) (by rw[List.length_map];first | omega | (simp;omega)) h.out.size ?_;intro v5 w5 m a i;have q5:=hid (h.out.tell (X0i (l:=t++c) m (by simp) (by simp)) a i);obtain⟨T5,n⟩: ∃T5,t++c=T5:=⟨_,rfl⟩;rw[n] at q5;replace n:=hid n;obtain⟨p5,v,rfl⟩:=X0b (X0a q5.out.told);have k5:=X2B h.out.box a (fun e=>X5m h.out.told h.out.box e.symm);have e5:=X00 k5 1 _ rfl;have f5:=X06 k5 1;clear m a i k5)
  obtain⟨W,hW⟩: ∃W,w5.setCell ⟨b,1,none⟩ (.slice p5 T5.length v)=W:=⟨_,rfl⟩;rw[hW] at q5;rw[hW];have q6:=q5.out.new (.cells #[.int .i64 d] 3);have e6:=X00 q6.box 0 _ rfl;have f6:=X06 q6.box 0;replace q6:=hid q6;clear hW e5 f5;go_wp2_with fail
  go_end0
  have hT:=n.out;subst hT;exact⟨rfl,_,_,q5.out.one⟩
open Go.RowKit Go.Lib
theorem XjJ(B b:Nat)(g:Option Nat)(l t:List Int)(d:Int)(vl vt:Value)(w:World)(hl:Nor.Kept l)(hd:Prp.mrkB d=true)(ht:t.length≤10000000)(h30:Nor.cntI l=30)(hp:At9 B b g w l t vl vt w):Calls Tryz.prog 170 #[.pointer (some ⟨b,0,none⟩), .int .i64 d] w (Puts B b g (Nor.putI l d).1 (t++(Nor.putI l d).2) w):=by
 have M:=Nor.X6K hl;have r:=Nor.Xns hl;unfold Nor.putI;rw[if_pos hd];obtain⟨pl,cl,rfl⟩:=X0b (X0a hp.kept);obtain⟨cd,p⟩: ∃cd,Prp.cccI d=cd:=⟨_,rfl⟩;have I:=hid (fun W=>Xih d cd p W);replace p:=hid p;have A:=Xb6 _ l w (by omega) (X0a hp.kept);obtain⟨R,hR⟩: ∃R,Nor.rowI l=R:=⟨_,rfl⟩;rw[hR] at A r;replace A:=hid A;have b0:=X00 hp.box 0 _ rfl;clear hR hl hd;rw[if_pos h30];rw[h30] at r;have N:((R.length:Int) == 30)=true:=beq_iff_eq.2 (by omega);have z:=hid (fun(w1:World) (hq:At9 B b g w1 l t (.slice pl l.length cl) vt w1)=>Xe2 B b g l t 847 _ _ w1 (by omega) ht hq);rw[Nor.XlW] at z ⊢
 obtain⟨c,hc⟩: ∃c,Can.X0s l=c:=⟨_,rfl⟩;rw[hc] at z ⊢;obtain⟨L,hL⟩: ∃L:List Int,[847]=L:=⟨_,rfl⟩;rw[hL] at z ⊢;obtain⟨U,hU⟩: ∃U,Nor.insI L d=U:=⟨_,rfl⟩;rw[hU];obtain⟨T,hT⟩: ∃T,t++c=T:=⟨_,rfl⟩;have O:L.length≤1:=by rw[←hL];exact Nat.le_refl _
 replace hU:=hid hU;replace hp:=hid hp;simp only[hT] at z ⊢;clear hc h30 hL hT r;go_enter Tryz.func170,Tryz.ntmps170;go_wp2_with fail;refine A.out.mono ?_;rintro e w1 ⟨v1,rfl,E,C⟩;obtain⟨p1,c1,rfl⟩:=X0b E;have qa:=hid (hp.out.go C);clear E C b0;go_wp2_with fail;refine(z.out _ qa.out.here).mono ?_;rintro e w2 ⟨rfl,vL,vt,qb⟩;obtain⟨pL,cL,rfl⟩:=X0b (X0a qb.kept);have q1:=hid (qa.out.since qb);clear qb qa;go_wp2_with fail;refine(I.out _).mono ?_;rintro e w3 ⟨rfl,D⟩;have q3:=hid (q1.out.here.go D);have b3:=X00 q3.out.box 0 _ rfl;clear D;go_wp2_with fail
 go_loopg [5] L.length (fun n vk wr=>n≤L.length∧vk= .int .i64 n∧(∀x∈L.drop n,Prp.cccI d<Prp.cccI x)∧Below w3.heap.size w3 wr)
 case atStart=>exact⟨Nat.le_refl _,rfl,fun x hx=>by simp at hx,Below.refl _ _⟩
 case round=>
  obtain⟨hk,rfl,i,a⟩:=hrel;have qr:=hid (q3.out.go a);have br:=X00 qr.out.box 0 _ rfl;replace i:=hid i;cases gk with
  |
   zero=>
   replace a:=hid a;clear b3;have f:=Nor.Xhm (d:=d) (Nat.zero_le L.length) i.out (fun h=>absurd h (Nat.lt_irrefl 0));have q7:=hid (qr.out.new (.cells #[.int .i64 d] 3));have u:=hid (X87 B (.slice pL L.length cL) L 0 d wr.heap.size 3 (wr.alloc (.cells #[.int .i64 d] 3)) (by omega) (by omega) q7.out.kept q7.out.size (X0g wr _ _) (fun e=>by have:=(World.ownsRow.lt qr.out.kept _ e).2;omega));rw[←f,hU.out] at u;replace f:=hid f;have b7:=X00 q7.out.box 0 _ rfl;go_wp2_with fail;refine u.out.mono ?_;rintro e w6 ⟨v6,rfl,o,m,v⟩;obtain⟨p6,c6,rfl⟩:=X0b (X0a o);have q6:=hid (q7.out.grew o m v)
   have k6:=X2B q7.out.box m (fun e=>X5m q7.out.kept q7.out.box e.symm);have e6:=X00 k6 0 _ rfl;have f6:=X06 k6 0;clear o m v k6 b7;go_wp2_with fail
   go_end0
   exact⟨rfl,_,_,q1.out.since (q6.out)⟩
  |
   succ k=>
   obtain⟨g0,H,K,P,q⟩:=ri_at (X0a qr.out.kept) (by omega);subst K;have hc:=q k hk;obtain⟨x,hx⟩: ∃x,L[k]=x:=⟨_,rfl⟩;rw[hx] at hc;obtain⟨cx,s⟩: ∃cx,Prp.cccI x=cx:=⟨_,rfl⟩;have F:=hid (fun W=>Xih x cx s W);replace a:=hid a;have G:=hid hx;replace s:=hid s;clear q b3 hx;by_cases hlt:cd<cx
   ·go_wp2_with fail;refine(F.out _).mono ?_;rintro e w4 ⟨rfl,j⟩;replace j:=hid (X05 a.out j);go_wp2_with fail;go_roundg k
    case measure=>omega
    case rel=>exact⟨by omega,by go_num,fun y hy=>by
     rw[List.drop_eq_getElem_cons hk,List.mem_cons,G.out] at hy;rcases hy with rfl | hy
     ·rw[s.out,p.out];exact hlt
     ·exact i.out y hy,j.out⟩
   ·go_wp2_with fail;refine(F.out _).mono ?_;rintro e w4 ⟨rfl,j⟩;have q4:=hid (qr.out.go j);replace j:=hid (X05 a.out j);have b4:=X00 q4.out.box 0 _ rfl;clear br hc;have f:=Nor.Xhm (d:=d) hk i.out (fun _=>by simp only[Nat.add_sub_cancel];rw[G.out,s.out,p.out];omega);have q7:=hid (q4.out.new (.cells #[.int .i64 d] 3));have u:=hid (X87 B (.slice (some ⟨g0,H,none⟩) L.length cL) L (k+1) d w4.heap.size 3 (w4.alloc (.cells #[.int .i64 d] 3)) (by omega) (by omega) q7.out.kept q7.out.size (X0g w4 _ _) (fun e=>by have:=(World.ownsRow.lt q4.out.kept _ e).2;omega));rw[←f,hU.out] at u;replace f:=hid f
    have b7:=X00 q7.out.box 0 _ rfl;go_wp2_with fail;refine u.out.mono ?_;rintro e w6 ⟨v6,rfl,o,m,v⟩;obtain⟨p6,c6,rfl⟩:=X0b (X0a o);have q6:=hid (q7.out.grew o m v);have k6:=X2B q7.out.box m (fun e=>X5m q7.out.kept q7.out.box e.symm);have e6:=X00 k6 0 _ rfl;have f6:=X06 k6 0;clear o m v k6 b7;go_wp2_with fail
    go_end0
    exact⟨rfl,_,_,q1.out.since (q6.out)⟩
theorem XjK(B b:Nat)(g:Option Nat)(l t:List Int)(d:Int)(vl vt:Value)(w:World)(hl:Nor.Kept l)(hd:Prp.mrkB d=true)(ht:t.length≤10000000)(h30: ¬Nor.cntI l=30)(hp:At9 B b g w l t vl vt w):Calls Tryz.prog 170 #[.pointer (some ⟨b,0,none⟩), .int .i64 d] w (Puts B b g (Nor.putI l d).1 (t++(Nor.putI l d).2) w):=by
 have I:=Nor.X6K hl;have v:=Nor.Xns hl;unfold Nor.putI;rw[if_pos hd];obtain⟨pl,cl,rfl⟩:=X0b (X0a hp.kept);obtain⟨cd,o⟩: ∃cd,Prp.cccI d=cd:=⟨_,rfl⟩;have G:=hid (fun W=>Xih d cd o W);replace o:=hid o;have u:=Xb6 _ l w (by omega) (X0a hp.kept);obtain⟨R,hR⟩: ∃R,Nor.rowI l=R:=⟨_,rfl⟩;rw[hR] at u v;replace u:=hid u;have b0:=X00 hp.box 0 _ rfl;clear hR hl hd;rw[if_neg h30];have K:((R.length:Int) == 30)=false:=beq_eq_false_iff_ne.2 (by omega);obtain⟨U,hU⟩: ∃U,Nor.insI l d=U:=⟨_,rfl⟩;rw[hU,List.append_nil];replace hU:=hid hU;replace hp:=hid hp;clear h30 v;go_enter Tryz.func170,Tryz.ntmps170
 go_wp2_with fail;refine u.out.mono ?_;rintro e w1 ⟨v1,rfl,C,z⟩;obtain⟨p1,c1,rfl⟩:=X0b C;have q1:=hid (hp.out.go z);clear C z b0;go_wp2_with fail;refine(G.out _).mono ?_;rintro e w3 ⟨rfl,A⟩;have q3:=hid (q1.out.here.go A);have b3:=X00 q3.out.box 0 _ rfl;clear A;go_wp2_with fail;go_loopg [5] l.length (fun n vk wr=>n≤l.length∧vk= .int .i64 n∧(∀x∈l.drop n,Prp.cccI d<Prp.cccI x)∧Below w3.heap.size w3 wr)
 case atStart=>exact⟨Nat.le_refl _,rfl,fun x hx=>by simp at hx,Below.refl _ _⟩
 case round=>
  obtain⟨hk,rfl,f,a⟩:=hrel;have qr:=hid (q3.out.go a);have br:=X00 qr.out.box 0 _ rfl;replace f:=hid f;cases gk with
  |
   zero=>
   replace a:=hid a;clear b3;have c:=Nor.Xhm (d:=d) (Nat.zero_le l.length) f.out (fun h=>absurd h (Nat.lt_irrefl 0));have q7:=hid (qr.out.new (.cells #[.int .i64 d] 3));have r:=hid (X87 B (.slice pl l.length cl) l 0 d wr.heap.size 3 (wr.alloc (.cells #[.int .i64 d] 3)) (by omega) (by omega) q7.out.kept q7.out.size (X0g wr _ _) (fun e=>by have:=(World.ownsRow.lt qr.out.kept _ e).2;omega));rw[←c,hU.out] at r;replace c:=hid c;have b7:=X00 q7.out.box 0 _ rfl;go_wp2_with fail;refine r.out.mono ?_;rintro e w6 ⟨v6,rfl,m,j,s⟩;obtain⟨p6,c6,rfl⟩:=X0b (X0a m);have q6:=hid (q7.out.grew m j s)
   have k6:=X2B q7.out.box j (fun e=>X5m q7.out.kept q7.out.box e.symm);have e6:=X00 k6 0 _ rfl;have f6:=X06 k6 0;clear m j s k6 b7;go_wp2_with fail
   go_end0
   exact⟨rfl,_,_,q1.out.since (q6.out)⟩
  |
   succ k=>
   obtain⟨g0,F,H,L,p⟩:=ri_at (X0a qr.out.kept) (by omega);subst H;have hc:=p k hk;obtain⟨x,hx⟩: ∃x,l[k]=x:=⟨_,rfl⟩;rw[hx] at hc;obtain⟨cx,q⟩: ∃cx,Prp.cccI x=cx:=⟨_,rfl⟩;have D:=hid (fun W=>Xih x cx q W);replace a:=hid a;have E:=hid hx;replace q:=hid q;clear p b3 hx;by_cases hlt:cd<cx
   ·go_wp2_with fail;refine(D.out _).mono ?_;rintro e w4 ⟨rfl,i⟩;replace i:=hid (X05 a.out i);go_wp2_with fail;go_roundg k
    case measure=>omega
    case rel=>exact⟨by omega,by go_num,fun y hy=>by
     rw[List.drop_eq_getElem_cons hk,List.mem_cons,E.out] at hy;rcases hy with rfl | hy
     ·rw[q.out,o.out];exact hlt
     ·exact f.out y hy,i.out⟩
   ·go_wp2_with fail;refine(D.out _).mono ?_;rintro e w4 ⟨rfl,i⟩;have q4:=hid (qr.out.go i);replace i:=hid (X05 a.out i);have b4:=X00 q4.out.box 0 _ rfl;clear br hc;have c:=Nor.Xhm (d:=d) hk f.out (fun _=>by simp only[Nat.add_sub_cancel];rw[E.out,q.out,o.out];omega);have q7:=hid (q4.out.new (.cells #[.int .i64 d] 3));have r:=hid (X87 B (.slice (some ⟨g0,F,none⟩) l.length cl) l (k+1) d w4.heap.size 3 (w4.alloc (.cells #[.int .i64 d] 3)) (by omega) (by omega) q7.out.kept q7.out.size (X0g w4 _ _) (fun e=>by have:=(World.ownsRow.lt q4.out.kept _ e).2;omega));rw[←c,hU.out] at r;replace c:=hid c
    have b7:=X00 q7.out.box 0 _ rfl;go_wp2_with fail;refine r.out.mono ?_;rintro e w6 ⟨v6,rfl,m,j,s⟩;obtain⟨p6,c6,rfl⟩:=X0b (X0a m);have q6:=hid (q7.out.grew m j s);have k6:=X2B q7.out.box j (fun e=>X5m q7.out.kept q7.out.box e.symm);have e6:=X00 k6 0 _ rfl;have f6:=X06 k6 0;clear m j s k6 b7;go_wp2_with fail
    go_end0
    exact⟨rfl,_,_,q1.out.since (q6.out)⟩
theorem XlU(B b:Nat)(g:Option Nat)(l t:List Int)(d:Int)(vl vt:Value)(w:World)(hl:Nor.Kept l)(hd:Prp.mrkB d=true)(ht:t.length≤10000000)(hp:At9 B b g w l t vl vt w):Calls Tryz.prog 170 #[.pointer (some ⟨b,0,none⟩), .int .i64 d] w (Puts B b g (Nor.putI l d).1 (t++(Nor.putI l d).2) w):=by
 by_cases h30:Nor.cntI l=30
 ·exact XjJ B b g l t d vl vt w hl hd ht h30 hp
 ·exact XjK B b g l t d vl vt w hl hd ht h30 hp
theorem XAi{w w1:World}{v:Value}{l:List Int}(h:RI w v l)(hz:w.heap.size≤w1.heap.size)(hs: ∀j,v.ownBlock=some j→w1.heap[j]? =w.heap[j]?):RI w1 v l:=by
 rcases h with h | ⟨a,c,rfl,d,h⟩
 ·exact .inl h
 ·refine .inr ⟨a,c,rfl,d,fun hl=>?_⟩;obtain⟨b,o,rfl,h1,h2⟩:=h hl;refine⟨b,o,rfl,Nat.lt_of_lt_of_le h1 hz,fun i hi=>?_⟩;have h3:=h2 i hi;unfold World.cell? at h3 ⊢;rw[hs b rfl];exact h3
namespace At9
variable {B b:Nat} {g:Option Nat} {w0 w w1:World} {l t c:List Int} {vl vt v1:Value}
theorem named(h:At9 B b none w0 l t vl vt w)(hf:OwnI w.heap.size v1 c w1)(hb:Below w.heap.size w w1):At9 B b v1.ownBlock w1 l t vl vt w1:=by
 have k:=(h.go hb).here;refine⟨k.box,k.kept,k.told,k.base,k.apart,fun j e=>?_,Below.refl _ _,fun _ _=>rfl⟩;have hj:=World.ownsRow.lt hf j e;refine⟨fun e'=>?_,fun e'=>?_,fun e'=>?_,hj.2⟩
 ·have:=(World.ownsRow.lt h.kept j e').2;omega
 ·have:=(World.ownsRow.lt h.told j e').2;omega
 ·have:=X1h h.box;omega
theorem free(h:At9 B b g w0 l t vl vt w):At9 B b none w0 l t vl vt w:=
 ⟨h.box,h.kept,h.told,h.base,h.apart,(fun _ e=>by cases e),h.below,(fun _ e=>by cases e)⟩
end At9
theorem Xu1{l:List Int}{d:Int}(hd:Prp.mrkB d=false):Nor.putI l d=Nor.headI l d:=by
 unfold Nor.putI;rw[hd];rfl
theorem Xu2(l t F:List Int)(k:Nat)(hk:k<F.length):(Nor.putI (Nor.runI l (F.take k)).1 F[k]).1=(Nor.runI l (F.take (k+1))).1∧t++(Nor.runI l (F.take k)).2++(Nor.putI (Nor.runI l (F.take k)).1 F[k]).2=t++(Nor.runI l (F.take (k+1))).2:=by
 rw[List.take_succ_eq_append_getElem hk,X81,List.append_assoc];exact⟨rfl,rfl⟩
def Ran(B b:Nat)(g:Option Nat)(l t F:List Int)(k:Nat)(w1 wr:World):Prop:=∃va vb,At9 B b g w1 (Nor.runI l (F.take k)).1 (t++(Nor.runI l (F.take k)).2) va vb wr
theorem XjL(B b:Nat)(l t:List Int)(r:Int)(vl vt:Value)(w:World)(hl:Nor.Kept l)(ht:t.length≤9000000)(hp:At9 B b none w l t vl vt w):Calls Tryz.prog 141 #[.pointer (some ⟨b,0,none⟩), .int .i64 r] w (Puts B b none (Nor.runI l (Dcp.fullI r)).1 (t++(Nor.runI l (Dcp.fullI r)).2) w):=by
 have C:=(Dcp.X1U r).2;have m:=XiE r w;obtain⟨F,hF⟩: ∃F,Dcp.fullI r=F:=⟨_,rfl⟩;rw[hF] at m C ⊢;replace m:=hid m;replace hp:=hid hp;replace hl:=hid hl;clear hF;go_enter Tryz.func141,Tryz.ntmps141;go_wp2_with fail;refine m.out.mono ?_;rintro e w1 ⟨vF,rfl,u,p⟩;have q1:=hp.out.named u p;have j:=X0a u;obtain⟨pF,cF,rfl⟩:=X0b j;have A:=hid (hp.out.go p);replace q1:=hid q1;replace j:=hid j;clear u p;go_wp2_with fail;go_loopg [9] F.length (fun n vk wr=>∃k:Nat,k≤F.length∧vk= .int .i64 k∧n=F.length - k∧Ran B b (Value.slice pF F.length cF).ownBlock l t F k w1 wr)
 case atStart=>exact⟨0,Nat.zero_le _,rfl,rfl,vl,vt,by simpa [Nor.runI] using q1.out⟩
 case round=>
  obtain⟨k,hk,rfl,rfl,va,vb,q⟩:=hrel;by_cases hlt:k<F.length
  ·have z:(k:Int)<(F.length:Int):=by omega
   obtain⟨x,hx⟩: ∃x,F[k]=x:=⟨_,rfl⟩;obtain⟨bF,oF,rfl,_,f⟩:=ri_at (XAi j.out q.below.size q.same) (by omega);have hc:=f k hlt;rw[hx] at hc;have a:=Xu2 l t F k hlt;rw[hx] at a;have g:=Nor.Xnw hl.out (F.take k);have v:=Nor.Xxx hl.out (F.take k);rw[List.length_take] at v;obtain⟨L,hL⟩: ∃L,(Nor.runI l (F.take k)).1=L:=⟨_,rfl⟩;obtain⟨O,hO⟩: ∃O,(Nor.runI l (F.take k)).2=O:=⟨_,rfl⟩;rw[hL] at q a g;rw[hO] at q a v;obtain⟨T,hT⟩: ∃T,t++O=T:=⟨_,rfl⟩;have y:T.length≤10000000:=by rw[←hT,List.length_append];omega
   rw[hT] at q a;have D:=Nor.X6K g;replace a:=hid a;replace g:=hid g;replace q:=hid q;clear f hL hO hT hx v;cases c:Prp.mrkB x with
   |
    true=>
    have s:=hid (fun W=>X4T x true c W);replace c:=hid c;go_wp2_with fail;refine(s.out _).mono ?_;rintro e w4 ⟨rfl,d⟩;have q4:=hid (q.out.go d);have i:=hid (XlU B b _ L T x _ _ _ g.out c.out y q4.out.here);clear d hc;go_wp2_with fail;refine i.out.mono ?_;rintro e w5 ⟨rfl,vc,vd,q5⟩;have q6:=hid (q4.out.since q5);clear q5;go_wp2_with fail;go_roundg (F.length - (k+1))
    case measure=>omega
    case rel=>exact⟨k+1,by omega,by go_num,rfl,vc,vd,by have h6:=q6.out;rw[a.out.1,a.out.2] at h6;exact h6⟩
   |
    false=>
    have s:=hid (fun W=>X4T x false c W);have o:=fun(W:World) (h:At9 B b (Value.slice (some ⟨bF,oF,none⟩) F.length cF).ownBlock W L T va vb W)=>Xe2 B b _ L T x va vb W (by omega) y h;rw[←Xu1 (l:=L) c] at o;replace o:=hid o;replace c:=hid c;go_wp2_with fail;refine(s.out _).mono ?_;rintro e w4 ⟨rfl,d⟩;have q4:=hid (q.out.go d);have i:=hid (o.out _ q4.out.here);clear d hc;go_wp2_with fail;refine i.out.mono ?_;rintro e w5 ⟨rfl,vc,vd,q5⟩;have q6:=hid (q4.out.since q5);clear q5;go_wp2_with fail;go_roundg (F.length - (k+1))
    case measure=>omega
    case rel=>exact⟨k+1,by omega,by go_num,rfl,vc,vd,by have h6:=q6.out;rw[a.out.1,a.out.2] at h6;exact h6⟩
  ·obtain rfl:k=F.length:=by omega
   have z:decide ((F.length:Int)<(F.length:Int))=false:=by simp
   have q9:=hid q;clear q;go_wp2_with fail
   go_end0
   have q8:=A.out.since q9.out.free;rw[List.take_length] at q8;exact⟨rfl,_,_,q8⟩
end Go.Proofs.YtkofnpkopbnocaaGreatDoor
