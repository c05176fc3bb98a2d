import Derived.Test.YtkofnpkopbnocaaGreatDoorTk
import Derived.Test.YtkofnpkopbnocaaGreatDoorMatP
import Derived.Test.YtkofnpkopbnocaaGreatDoorBasP
import Derived.Test.YtkofnpkopbnocaaGreatDoorKP
import Derived.Test.YtkofnpkopbnocaaGreatDoorCnP
import Derived.Test.YtkofnpkopbnocaaGreatDoorPrP
import Derived.Test.YtkofnpkopbnocaaGreatDoorCaP
import Derived.Test.YtkofnpkopbnocaaGreatDoorMthP
import Derived.Deep.RegionHeld3
import Derived.WalkKit
import Derived.Laws.CopyOwn
import Derived.Laws.MakeOwn
import Derived.Deep.RegionHeld
import Derived.OrdersHeld
import Derived.Test.YtkofnpkopbnocaaGreatDoorNoQ
set_option linter.unusedSimpArgs false
set_option linter.unusedVariables false
set_option maxRecDepth 100000
set_option maxHeartbeats 6400000
namespace Go.Proofs.YtkofnpkopbnocaaGreatDoor
open Go.RowKit Go.Lib
theorem X2J{B b:Nat}{v:Value}{l:List Int}{w:World}{cs:Array Value}{T:TypeId}(hT:T≠3)(h:OwnI B v l w)(hb:Blk w b cs T):v.ownBlock≠some b:=by
 intro e;rcases h.2 with⟨rfl,_⟩ | ⟨g,cap,a,rfl,_,hg,_⟩
 ·cases e
 ·cases e;unfold Blk at hb;rw[hb] at hg;injection hg with hg;injection hg with _ hg;exact hT hg
theorem X3Q:24≠3:=by decide
theorem Xfj{v v':Value}{w w2:World}(hb:Below w.heap.size w w2)(h:Lies v' v w2):Lies v' v w:=
 h.imp id fun⟨j,h1,h2⟩=>⟨j,h1,Nat.le_trans hb.size h2⟩
theorem Xd5(m:List Int)(k:Nat)(hk:k<m.length):(m.take k).filter (fun r=> !Prp.drpB r)++(if Prp.drpB m[k]=true then [] else [m[k]])=(m.take (k+1)).filter (fun r=> !Prp.drpB r):=by
 rw[List.take_succ_eq_append_getElem hk,List.filter_append]
 congr 1
 cases h:Prp.drpB m[k] <;> simp [h]
theorem Xd6:170≠3:=by decide
theorem XiL(v:Value)(l:List Int)(w:World)(hl:l.length≤10000)(hv:RI w v l):Calls Tryz.prog 142 #[.agg #[v]] w fun e w'=>∃va,e= .returned (.agg #[va])∧OwnI w.heap.size va (wellI l) w'∧Below w.heap.size w w':=by
 obtain⟨p,cap,rfl⟩:=X0b hv;have h:=X0g w #[.slice p l.length cap] 41;have c:=X0l h (.cells #[.slice none 0 0] 41);have d:=X0g (w.alloc (.cells #[.slice p l.length cap] 41)) #[.slice none 0 0] 41;rw[show (w.alloc (.cells #[.slice p l.length cap] 41)).heap.size=w.heap.size+1 by simp] at d;have f:Below w.heap.size w ((w.alloc (.cells #[.slice p l.length cap] 41)).alloc (.cells #[.slice none 0 0] 41)):=(X04 w _).alloc (by simp) _;obtain⟨W,hW⟩: ∃W,(w.alloc (.cells #[.slice p l.length cap] 41)).alloc (.cells #[.slice none 0 0] 41)=W:=⟨_,rfl⟩;have j:=X03 hv f;rw[hW] at c d f j
 have a:=Xe1 (.slice p l.length cap) l W hl j;unfold wellI;replace c:=hid c;replace d:=hid d;replace f:=hid f;replace j:=hid j;replace hW:=hid hW;clear hv h;cases hS:Nor.saneB l with
 |
  true=>
  rw[if_pos rfl];rw[hS] at a;replace a:=hid a;clear hS;go_enter Tryz.func142,Tryz.ntmps142;go_upto_region 1 with(fail);rw[hW.out];have b0:=X00 c.out 0 _ rfl;go_wp2_with fail;refine a.out.mono ?_;rintro e w2 ⟨rfl,b⟩;have n:=X02 c.out b;have c2:=X00 n 0 _ rfl;have r:=hid (XtZ (.slice p l.length cap) l w2 (by omega) (X03 j.out b));have g:=hid (X02 d.out b);replace b:=hid (f.out.trans (b.mono f.out.size));clear b0 n;go_wp2_with fail;refine r.out.mono ?_;rintro e w3 ⟨v3,rfl,m,o⟩;have i:=X02 g.out o;have c3:=X00 i 0 _ rfl;have f3:=X06 i 0;obtain⟨p3,k,rfl⟩:=X0b (X0a m)
  have s:w.heap.size+1<w2.heap.size:=X1h g.out;have x:=hid (X7z (u:= .slice p3 l.length k) i);have y:=hid (X0w (X1d m ⟨w.heap.size+1,0,none⟩ (.slice p3 l.length k) (X2S m s)) (show w.heap.size≤w2.heap.size by omega));have q:=hid ((X05 b.out o).setCell (p:=⟨w.heap.size+1,0,none⟩) (Nat.le_succ _) (.slice p3 l.length k));replace i:=hid i;clear c2 o m;go_wp2_with fail;have d4:=X00 x.out 0 _ rfl;refine bodyPost_ret (v:= .agg #[.slice p3 l.length k]) ?_ rfl ⟨_,rfl,y.out,q.out⟩;simp [results,Tryz.results142,go_sem,d4]
 |
  false=>
  rw[if_neg (by simp)];rw[hS] at a;replace a:=hid a;clear hS;go_enter Tryz.func142,Tryz.ntmps142;go_upto_region 1 with(fail);rw[hW.out];have b0:=X00 c.out 0 _ rfl;go_wp2_with fail;refine a.out.mono ?_;rintro e w2 ⟨rfl,b⟩;have g:=X02 d.out b;have c2:=X00 g 0 _ rfl;have f2:=X06 g 0;have t:=hid (X7z (u:= .slice none 0 0) g);have q:=hid ((f.out.trans (b.mono f.out.size)).setCell (p:=⟨w.heap.size+1,0,none⟩) (Nat.le_succ _) (.slice none 0 0));replace g:=hid g;clear b0 b;go_wp2_with fail;have d4:=X00 t.out 0 _ rfl;refine bodyPost_ret (v:= .agg #[.slice none 0 0]) ?_ rfl ⟨_,rfl,X0O _ _,q.out⟩
  simp [results,Tryz.results142,go_sem,d4]
theorem X33:41≠3:=by decide
def Only2(k0 k1:Nat)(v:Value)(w w':World):Prop:=Below 0 w w'∧∀j,j<w.heap.size→j≠k0→j≠k1→some j≠v.ownBlock→w'.heap[j]? =w.heap[j]?
theorem Xlg{B k0 k1:Nat}{v:Value}{l:List Int}{w0 w w1:World}(h:Only2 k0 k1 v w w1)(ho:OwnI B v l w)(h0:B≤k0)(h1:B≤k1)(hB:B≤w.heap.size)(hb:Below B w0 w):Below B w0 w1:=
 hb.trans ⟨h.1.os,h.1.tape,h.1.output,h.1.size,fun j hj=>h.2 j (by omega) (by omega) (by omega) (Xe4 ho hj)⟩
theorem XiM{B k0 k1 j:Nat}{v:Value}{l:List Int}{cs:Array Value}{T:TypeId}{w w1:World}(h:Only2 k0 k1 v w w1)(hT:T≠3)(ho:OwnI B v l w)(hb:Blk w j cs T)(hj:j≠k0)(hj1:j≠k1):Blk w1 j cs T:=by
 unfold Blk;rw[h.2 j (X1h hb) hj hj1 (fun e=>X2J hT ho hb e.symm)];exact hb
theorem Xsu{B k0 k1:Nat}{u v:Value}{m:List Int}{cs cs1:Array Value}{T T1:TypeId}{w w1:World}(h:Only2 k0 k1 v w w1)(hu:OwnI B u m w)(hT:T≠3)(hT1:T1≠3)(hk:Blk w k0 cs T)(hk1:Blk w k1 cs1 T1)(hne:u.ownBlock=none∨u.ownBlock≠v.ownBlock):OwnI B u m w1:=by
 refine⟨hu.1,?_⟩;have b:=X2J hT hu hk;have a:=X2J hT1 hu hk1;rcases hu.2 with hn | ⟨g,cap,c,rfl,hg,hh,r⟩
 ·exact .inl hn
 ·refine .inr ⟨g,cap,c,rfl,hg,?_,r⟩;rw[h.2 g (Array.getElem?_eq_some_iff.1 hh).1 (fun e=>b (by rw[←e];rfl)) (fun e=>a (by rw[←e];rfl)) (by simpa [Value.ownBlock] using hne)];exact hh
theorem Xlh{k0 k1:Nat}{v:Value}{w w2 w3:World}(hb:Below w.heap.size w w2)(h:Only2 k0 k1 v w2 w3):Only2 k0 k1 v w w3:=
 ⟨(hb.mono (Nat.zero_le _)).trans h.1,fun j hj h1 h2 h3=>(h.2 j (Nat.lt_of_lt_of_le hj hb.size) h1 h2 h3).trans (hb.block j hj)⟩
theorem XoL{k0 k1:Nat}{v:Value}{w w2:World}(hb:Below w.heap.size w w2):Only2 k0 k1 v w w2:=⟨hb.mono (Nat.zero_le _),fun j hj _ _ _=>hb.block j hj⟩
def PutF(B k0 k1:Nat)(q:List Int × List Int)(vt:Value)(w w':World):Prop:=∃va vb,Blk w' k0 #[va] 41∧Blk w' k1 #[vb] 24∧OwnI B va q.1 w'∧OwnI B vb q.2 w'∧Lies vb vt w∧Only2 k0 k1 vt w w'
theorem XoM{B k0 k1:Nat}{q:List Int × List Int}{vt:Value}{w w2 w3:World}(hb:Below w.heap.size w w2)(h:PutF B k0 k1 q vt w2 w3):PutF B k0 k1 q vt w w3:=by
 obtain⟨va,vb,h1,h2,h3,h4,h5,h6⟩:=h;exact⟨va,vb,h1,h2,h3,h4,Xfj hb h5,Xlh hb h6⟩
theorem Xli(B k0 k1:Nat)(l T:List Int)(r:Int)(vs vt:Value)(w:World)(hl:l.length≤1000)(ht:T.length≤1000000)(h0:Blk w k0 #[vs] 41)(h1:Blk w k1 #[vt] 24)(n:k0≠k1)(hB0:B≤k0)(hB1:B≤k1)(hv:RI w vs l)(ho:OwnI B vt T w):
 Calls Tryz.prog 144 #[.int .i64 r, .pointer (some ⟨k0,0,none⟩), .pointer (some ⟨k1,0,none⟩)] w fun e w'=>e= .returned (.tuple #[])∧PutF B k0 k1 ((Nor.feedI l r).1,T++(Nor.feedI l r).2) vt w w':=by
 obtain⟨i0,hi,L,M,N⟩:=info_parts X2p;have b0:=X00 h0 0 _ rfl;have O:=X1h h0;have P:=X1h h1;have c:=XjN vs l r w (by omega) hv;have s:=Nor.X1G l r;obtain⟨q,hq⟩: ∃q,Nor.feedI l r=q:=⟨_,rfl⟩;rw[hq] at c s ⊢;obtain⟨q1,q2⟩:=q;dsimp only at s ⊢;obtain⟨ps,cs,rfl⟩:=X0b hv;obtain⟨pt,ct,rfl⟩:=X0b (X0a ho);obtain⟨m,hm⟩: ∃m,T++q2=m:=⟨_,rfl⟩;rw[hm];have o:T.length+q2.length≤maxLen:=by unfold maxLen;omega
 have p:(T.length+q2.length) *8≤140737488355328:=by omega
 replace o:=hid o;replace p:=hid p;replace hm:=hid hm;replace c:=hid c;replace h0:=hid h0;replace h1:=hid h1;replace ho:=hid ho;replace n:=hid n;clear hv hq s;go_enter Tryz.func144,Tryz.ntmps144;go_wp2_with fail;refine c.out.mono ?_;rintro e w2 ⟨va,vb,rfl,k,x,b⟩;obtain⟨pa,ca,rfl⟩:=X0b (X0a k);obtain⟨pb,cb,rfl⟩:=X0b (X0a x);have f:=X02 h0.out b;have A:=X02 h1.out b;have t:=X0x ho.out b;have c0:=X00 f 0 _ rfl;have f0:=X06 f 0;have z:=hid (X7z (u:= .slice pa q1.length ca) f);have g:=Xu4 (j:=k0) (u:= .slice pa q1.length ca) A n.out;have c1:=X00 g 0 _ rfl;replace g:=hid g
 have C:=hid (X1d k ⟨k0,0,none⟩ (.slice pa q1.length ca) (.inr (X2J X33 k f)));have K:=hid (X0Y (Xc4 (X0a x) f (Xc5 _ _ _) (.slice pa q1.length ca)));have v:=hid (X1d t ⟨k0,0,none⟩ (.slice pa q1.length ca) (.inr (X2J X33 t f)));have E:=hid (X5n k ho.out);have I:=hid (show B≤(w2.setCell ⟨k0,0,none⟩ (.slice pa q1.length ca)).heap.size by have:=b.size;simp;omega);have D:=hid (show B≤w.heap.size by omega);replace f:=hid f;replace b:=hid b;clear A t k x
 go_wp2_with (at_builtin;refine X1i rfl _ _ 24 rfl B 3 i0 (.int .i64 0) 8 Tryz.underlying24 hi L M N rfl _ _ _ rfl v.out _ _ rfl K.out (X0u q2) (by rw[List.length_map];exact o.out) (by rw[List.length_map];exact p.out) I.out ?_;intro v5 w5 i a d;have o5:=hid (X0i (l:=T++q2) i (by simp) (by simp));rw[hm.out] at o5;obtain⟨p5,q5,rfl⟩:=X0b (X0a o5.out);have x5:=hid (X2B g.out a (fun e=>X2J X3Q v.out g.out e.symm));have y5:=hid (X2B z.out a (fun e=>X2J X33 v.out z.out e.symm));have c5:=X00 x5.out 0 _ rfl;have f5:=X06 x5.out 0;have a5:=hid (World.ownsRow.kept C.out a E.out);replace a:=hid a;replace d:=hid d;clear i)
 go_wp2_with fail
 go_end0
 have y:OwnI w.heap.size (.slice pa q1.length ca) q1 w5:=a5.out;refine⟨rfl, .slice pa q1.length ca, .slice p5 m.length q5,Xu4 (j:=k1) y5.out n.out.symm,X7z x5.out,X0w (X1d y _ _ (.inr (X2J X3Q y x5.out))) D.out,X1d o5.out _ _ (.inr (X2J X3Q o5.out x5.out)),?_,?_,?_⟩
 ·rcases d.out with h | ⟨j,h1,h2⟩
  ·exact .inl h
  ·exact .inr ⟨j,h1,Nat.le_trans b.out.size (by simpa using h2)⟩
 ·have hg:=a.out;have hb:=b.out;exact⟨hg.os.trans hb.os,hg.tape.trans hb.tape,hg.output.trans hb.output,by have h1:=hg.size;have h2:=hb.size;simp at h1 ⊢;omega,fun j hj=>by omega⟩
 ·intro j hj F G H;rw[Below.heap_setCell _ _ _ _ (by exact G),a.out.block j (by have:=b.out.size;simp;omega) H,Below.heap_setCell _ _ _ _ (by exact F),b.out.block j hj]
theorem Xlj(k0 k1:Nat)(w:World):Calls Tryz.prog 143 #[.func (.func 144) #[] #[.pointer (some ⟨k0,0,none⟩), .pointer (some ⟨k1,0,none⟩)]] w fun e w'=>
 e= .returned (.func (.func 172) #[] #[.pointer (some ⟨w.heap.size,0,none⟩)])∧w'=w.alloc (.cells #[.func (.func 144) #[] #[.pointer (some ⟨k0,0,none⟩), .pointer (some ⟨k1,0,none⟩)]] 170):=by
 have a: ∀ (fn:Fn) (first cap:Array Value) (w:World),(Instr.makeFunc fn first cap).run Tryz.prog w= .ok (.func fn first cap) w:=fun _ _ _ _=>rfl;go_enter Tryz.func143,Tryz.ntmps143;go_wp2_with fail;go_ret;exact⟨rfl,rfl⟩
theorem XiN(B C k0 k1:Nat)(l T:List Int)(r:Int)(vs vt:Value)(w:World)(hl:l.length≤1000)(ht:T.length≤1000000)(h0:Blk w k0 #[vs] 41)(h1:Blk w k1 #[vt] 24)(hne:k0≠k1)(hB0:B≤k0)(hB1:B≤k1)(hv:OwnI B vs l w)(ho:OwnI B vt T w)
 (hC:Blk w C #[.func (.func 144) #[] #[.pointer (some ⟨k0,0,none⟩), .pointer (some ⟨k1,0,none⟩)]] 170):
 Calls Tryz.prog 172 #[.int .i64 r, .pointer (some ⟨C,0,none⟩)] w fun e w'=>e= .returned (.tuple #[])∧PutF B k0 k1 ((Nor.X1J l (if Prp.drpB r=true then [] else [r])).1,T++(Nor.X1J l (if Prp.drpB r=true then [] else [r])).2) vt w w':=by
 have b:=Xk3 r;cases c:Prp.drpB r with
 |
  true=>
  rw[c] at b;rw[if_pos rfl];simp only[Nor.X1J,List.append_nil];replace b:=hid b;replace h0:=hid h0;replace h1:=hid h1;replace hv:=hid hv;replace ho:=hid ho;replace hC:=hid hC;clear c;go_enter Tryz.func172,Tryz.ntmps172;go_wp2_with fail;refine(b.out _).mono ?_;rintro e w2 ⟨rfl,a⟩;replace a:=hid a;go_wp2_with fail
  go_end0
  exact⟨rfl,vs,vt,X02 h0.out a.out,X02 h1.out a.out,X0x hv.out a.out,X0x ho.out a.out, .inl rfl,XoL a.out⟩
 |
  false=>
  rw[c] at b;rw[if_neg (by simp)];have d:Nor.X1J l [r]=Nor.feedI l r:=by simp [Nor.X1J]
  rw[d];replace b:=hid b;replace h0:=hid h0;replace h1:=hid h1;replace hv:=hid hv;replace ho:=hid ho;replace hC:=hid hC;clear c d;go_enter Tryz.func172,Tryz.ntmps172;go_wp2_with fail;refine(b.out _).mono ?_;rintro e w2 ⟨rfl,a⟩;have c2:=X00 (X02 hC.out a) 0 _ rfl;have g:=hid (Xli B k0 k1 l T r vs vt w2 hl ht (X02 h0.out a) (X02 h1.out a) hne hB0 hB1 (X03 (X0a hv.out) a) (X0x ho.out a));replace a:=hid a;go_wp2_with fail;refine g.out.mono ?_;rintro e w3 ⟨rfl,f⟩;replace f:=hid f;go_wp2_with fail
  go_end0
  exact⟨rfl,XoM a.out f.out⟩
theorem XBQ{l:List Int}(h:Nor.Kept l)(a:List Int):(Nor.X1J l a).1.length≤31∧(Nor.X1J l a).2.length≤31+8 *a.length:=by
 rw[Nor.Xe7 h];have h1:=Nor.X6K (Nor.Xnw h (Nfk.madeI a));have h2:=Nor.Xhp l (Nfk.madeI a);have h3:=Nor.X6K h;have h4:=Nor.X3u a;omega
theorem XoN(l a b:List Int)(t:List Int):(Nor.X1J (Nor.X1J l a).1 b).1=(Nor.X1J l (a++b)).1∧t++(Nor.X1J l a).2++(Nor.X1J (Nor.X1J l a).1 b).2=t++(Nor.X1J l (a++b)).2:=by
 rw[Nor.X4f];exact⟨rfl,by rw[List.append_assoc]⟩
theorem set22{w:World}{a:Addr}{b c:Nat}{x y u:Value}(hb:a.block≠b)(hc:a.block≠c)(h:w.cell? ⟨b,0,none⟩=some x∧w.cell? ⟨c,0,none⟩=some y):(w.setCell a u).cell? ⟨b,0,none⟩=some x∧(w.setCell a u).cell? ⟨c,0,none⟩=some y:=by
 constructor
 ·rw[World.cell?_setCell_other]
  ·exact h.1
  ·intro e;exact hb (congrArg Addr.block e)
 ·rw[World.cell?_setCell_other]
  ·exact h.2
  ·intro e;exact hc (congrArg Addr.block e)
abbrev X4I(m:List Int):List Int:=m.filter (fun r=> !Prp.drpB r)
def Xsv(B k0 kR k1 C k:Nat)(LL:List Int)(vD:Value)(m:List Int)(B1:Nat)(w wr:World):Prop:=
 ∃
  vs vt,Blk wr k0 #[vs] 41∧Blk wr k1 #[vt] 24∧Blk wr kR #[.slice none 0 0] 41∧OwnI B vs (Nor.X1J LL (X4I (m.take k))).1 wr∧OwnI B vt (Nor.X1J LL (X4I (m.take k))).2 wr∧OwnI B1 vD m wr∧(vD.ownBlock=none∨vD.ownBlock≠vt.ownBlock)
  ∧Blk wr C #[.func (.func 144) #[] #[.pointer (some ⟨k0,0,none⟩), .pointer (some ⟨k1,0,none⟩)]] 170∧Below B w wr
theorem XwN{B k0 kR k1 C k:Nat}{LL:List Int}{vD vt:Value}{m:List Int}{B1:Nat}{w wr w3:World}{cs0 cs1:Array Value}(hk:k<m.length)(hB0:B≤k0)(hB1:B≤k1)(hR0:kR≠k0)(hR1:kR≠k1)(hC0:C≠k0)(hC1:C≠k1)
 (h0:Blk wr k0 cs0 41) (h1:Blk wr k1 cs1 24) (hR:Blk wr kR #[.slice none 0 0] 41) (ht:OwnI B vt (Nor.X1J LL (X4I (m.take k))).2 wr) (hD:OwnI B1 vD m wr) (hap:vD.ownBlock=none∨vD.ownBlock≠vt.ownBlock)
 (hC:Blk wr C #[.func (.func 144) #[] #[.pointer (some ⟨k0,0,none⟩), .pointer (some ⟨k1,0,none⟩)]] 170) (hb:Below B w wr)
 (hp:PutF B k0 k1 ((Nor.X1J (Nor.X1J LL (X4I (m.take k))).1 (if Prp.drpB m[k]=true then [] else [m[k]])).1,(Nor.X1J LL (X4I (m.take k))).2++(Nor.X1J (Nor.X1J LL (X4I (m.take k))).1 (if Prp.drpB m[k]=true then [] else [m[k]])).2) vt wr w3):Xsv B k0 kR k1 C (k+1) LL vD m B1 w w3:=by
 obtain⟨va,vb,g1,g2,g3,g4,g5,g6⟩:=hp;have b:=X1h h0;have a:=XoN LL (X4I (m.take k)) (if Prp.drpB m[k]=true then [] else [m[k]]) [];rw[Xd5 m k hk] at a;simp only[List.nil_append] at a;exact⟨va,vb,g1,g2,XiM g6 X33 ht hR hR0 hR1,by rw[←a.1];exact g3,by rw[←a.2];exact g4,Xsu g6 hD X33 X3Q h0 h1 hap,X68 hD hap g5,XiM g6 Xd6 ht hC hC0 hC1,Xlg g6 ht hB0 hB1 (by omega) hb⟩
theorem Xlk(l:List Int)(r:Int):Fol.feedI l r=Nor.X1J (wellI l) (X4I (Cas.foldI r)):=by
 have h:Fol.leftI [r]=X4I (Cas.foldI r):=by simp [Fol.leftI,Cas.allI]
 unfold Fol.feedI wellI;rw[h]
theorem Xfl(v:Value)(l:List Int)(r:Int)(w:World)(hl:l.length≤10000)(hv:RI w v l)(hr: -9223372036854775808≤r∧r≤9223372036854775807):Calls Tryz.prog 111 #[.agg #[v], .int .i64 r] w (Fed (Fol.feedI l r) w):=by
 have a9: ∀ (fn:Fn) (first cap:Array Value) (w:World),(Instr.makeFunc fn first cap).run Tryz.prog w= .ok (.func fn first cap) w:=fun _ _ _ _=>rfl;rw[Xlk];obtain⟨p,cap,rfl⟩:=X0b hv;have H:=XjI l;have G:=fun W h=>XiL (.slice p l.length cap) l W hl h;obtain⟨L,hL⟩: ∃L,wellI l=L:=⟨_,rfl⟩;rw[hL] at H G ⊢;have a8:=(Cas.X9g r).2;have f:=fun W=>X9f r W hr.1 hr.2;obtain⟨m,hm⟩: ∃m,Cas.foldI r=m:=⟨_,rfl⟩;rw[hm] at a8 f ⊢;have n:=fun a=>XBQ H a;obtain⟨P,hP⟩: ∃P,Nor.X1J L (X4I m)=P:=⟨_,rfl⟩;rw[hP];obtain⟨P1,P2⟩:=P;replace hP:=hid hP
 have a3:(w.alloc (.cells #[.slice p l.length cap] 41)).heap.size=w.heap.size+1:=by simp
 have a4:((w.alloc (.cells #[.slice p l.length cap] 41)).alloc (.cells #[.slice none 0 0] 41)).heap.size=w.heap.size+2:=by simp
 have x0:=X0l (X0l (X0g w #[.slice p l.length cap] 41) (.cells #[.slice none 0 0] 41)) (.cells #[.slice none 0 0] 24);have xR:=X0g (w.alloc (.cells #[.slice p l.length cap] 41)) #[.slice none 0 0] 41;rw[a3] at xR;replace xR:=X0l xR (.cells #[.slice none 0 0] 24);have x1:=X0g ((w.alloc (.cells #[.slice p l.length cap] 41)).alloc (.cells #[.slice none 0 0] 41)) #[.slice none 0 0] 24;rw[a4] at x1;have t:=((X04 w (.cells #[.slice p l.length cap] 41)).alloc (by simp) (.cells #[.slice none 0 0] 41)).alloc (by simp;omega) (.cells #[.slice none 0 0] 24)
 have A:(((w.alloc (.cells #[.slice p l.length cap] 41)).alloc (.cells #[.slice none 0 0] 41)).alloc (.cells #[.slice none 0 0] 24)).heap.size=w.heap.size+3:=by simp
 obtain⟨W,hW⟩: ∃W,((w.alloc (.cells #[.slice p l.length cap] 41)).alloc (.cells #[.slice none 0 0] 41)).alloc (.cells #[.slice none 0 0] 24)=W:=⟨_,rfl⟩;rw[hW] at x0 xR x1 t A;have T:=hid (G W (X03 hv t));replace x0:=hid x0;replace x1:=hid x1;replace xR:=hid xR;replace t:=hid t;replace hW:=hid hW;replace A:=hid A;replace f:=hid f;replace n:=hid n;clear hv hL hm a3 a4 G H;go_enter Tryz.func111,Tryz.ntmps111;go_upto_region 2 with(fail);rw[hW.out];have b0:=X00 x0.out 0 _ rfl;go_wp2_with fail;refine T.out.mono ?_;rintro e w2 ⟨va,rfl,E,o⟩;obtain⟨pa,ca,rfl⟩:=X0b (X0a E);have s:=X02 x0.out o
 have c2:=X00 s 0 _ rfl;have f2:=X06 s 0;have I:w.heap.size+3≤w2.heap.size:=by have:=o.size;rw[A.out] at this;exact this
 have y0:=X7z (u:= .slice pa L.length ca) s;have y1:=Xu4 (j:=w.heap.size) (u:= .slice pa L.length ca) (X02 x1.out o) (by omega);have yR:=Xu4 (j:=w.heap.size) (u:= .slice pa L.length ca) (X02 xR.out o) (by omega);have o3:=X0w (B:=w.heap.size) (X1d E ⟨w.heap.size,0,none⟩ (.slice pa L.length ca) (.inr (X2J X33 E s))) (by rw[A.out];omega);have y:=(X05 t.out o).setCell (p:=⟨w.heap.size,0,none⟩) (Nat.le_refl _) (.slice pa L.length ca);have M:w.heap.size+3≤(w2.setCell ⟨w.heap.size,0,none⟩ (.slice pa L.length ca)).heap.size:=by simp;exact I
 clear b0 E o;replace y0:=hid y0;replace y1:=hid y1;replace yR:=hid yR;replace o3:=hid o3;replace y:=hid y;replace M:=hid M;replace I:=hid I;replace s:=hid s;go_upto_region 3 with(fail);generalize a5:w2.setCell ⟨w.heap.size,0,none⟩ (.slice pa L.length ca)=V at *
 have hcut:=Xlj w.heap.size (w.heap.size+2) V;have zC:=X0g V #[.func (.func 144) #[] #[.pointer (some ⟨w.heap.size,0,none⟩), .pointer (some ⟨w.heap.size+2,0,none⟩)]] 170;have z0:=hid (X0l y0.out (.cells #[.func (.func 144) #[] #[.pointer (some ⟨w.heap.size,0,none⟩), .pointer (some ⟨w.heap.size+2,0,none⟩)]] 170));have z1:=hid (X0l y1.out (.cells #[.func (.func 144) #[] #[.pointer (some ⟨w.heap.size,0,none⟩), .pointer (some ⟨w.heap.size+2,0,none⟩)]] 170))
 have zR:=hid (X0l yR.out (.cells #[.func (.func 144) #[] #[.pointer (some ⟨w.heap.size,0,none⟩), .pointer (some ⟨w.heap.size+2,0,none⟩)]] 170));have o4:=hid (X0B o3.out (.cells #[.func (.func 144) #[] #[.pointer (some ⟨w.heap.size,0,none⟩), .pointer (some ⟨w.heap.size+2,0,none⟩)]] 170));have R:=hid (y.out.alloc y.out.size (.cells #[.func (.func 144) #[] #[.pointer (some ⟨w.heap.size,0,none⟩), .pointer (some ⟨w.heap.size+2,0,none⟩)]] 170));obtain⟨U,hU⟩: ∃U,V.alloc (.cells #[.func (.func 144) #[] #[.pointer (some ⟨w.heap.size,0,none⟩), .pointer (some ⟨w.heap.size+2,0,none⟩)]] 170)=U:=⟨_,rfl⟩
 rw[hU] at zC z0 z1 zR o4 R;replace hcut:=hid hcut;replace zC:=hid zC;replace hU:=hid hU;replace a5:=hid a5;clear c2 f2 y0 y1 yR o3 y;go_wp2_with fail;refine hcut.out.mono ?_;rintro e w1 ⟨rfl,rfl⟩;rw[hU.out];have N:=M;obtain⟨C,hC⟩: ∃C,V.heap.size=C:=⟨_,rfl⟩;rw[hC] at zC N ⊢;clear hcut;replace hC:=hid hC;go_wp2_with fail;refine(f.out _).mono ?_;rintro e w5 ⟨vD,rfl,hD,i⟩;have q5:Xsv w.heap.size w.heap.size (w.heap.size+1) (w.heap.size+2) C 0 L vD m U.heap.size w w5:=
  ⟨_,_,X02 z0.out i,X02 z1.out i,X02 zR.out i,X0x o4.out i,X0O _ _,hD,X5n hD (X0O 0 U),X02 zC.out i,X05 R.out i⟩
 obtain⟨pD,cD,rfl⟩:=X0b (X0a hD);replace q5:=hid q5;clear hD i;go_wp2_with fail;go_loopg [17] m.length (fun g vi wr=>∃k:Nat,k≤m.length∧vi= .int .i64 k∧g=m.length - k∧Xsv w.heap.size w.heap.size (w.heap.size+1) (w.heap.size+2) C k L (.slice pD m.length cD) m U.heap.size w wr)
 case atStart=>exact⟨0,Nat.zero_le _,rfl,rfl,q5.out⟩
 case round=>
  obtain⟨k,hk,rfl,rfl,vs,vt,h0,h1,hR,hs,ht,hD,F,D,hb⟩:=hrel;by_cases hlt:k<m.length
  ·have a1:(k:Int)<(m.length:Int):=by omega
   obtain⟨b,off,rfl,_,z⟩:=ri_at (X0a hD) (by omega);have hc:=z k hlt;have a0:=n.out (X4I (m.take k));have a7:(X4I (m.take k)).length≤k:=Nat.le_trans (List.length_filter_le _ _) (by rw[List.length_take];exact Nat.min_le_left _ _);have O:=N.out;have d:=XiN w.heap.size C w.heap.size (w.heap.size+2) (Nor.X1J L (X4I (m.take k))).1 (Nor.X1J L (X4I (m.take k))).2 m[k] vs vt wr (by omega) (by omega) h0 h1 (by omega) (Nat.le_refl _) (by omega) hs ht D
   have c:=fun w3 hp=>XwN (w3:=w3) (kR:=w.heap.size+1) hlt (Nat.le_refl _) (show w.heap.size≤w.heap.size+2 by omega) (by omega) (by omega) (by omega) (by omega) h0 h1 hR ht hD F D hb hp;obtain⟨x,hx⟩: ∃x,m[k]=x:=⟨_,rfl⟩;rw[hx] at hc d c;obtain⟨q,hq⟩: ∃q,((Nor.X1J (Nor.X1J L (X4I (m.take k))).1 (if Prp.drpB x=true then [] else [x])).1,(Nor.X1J L (X4I (m.take k))).2++(Nor.X1J (Nor.X1J L (X4I (m.take k))).1 (if Prp.drpB x=true then [] else [x])).2)=q:=⟨_,rfl⟩;rw[hq] at d c;replace d:=hid d;replace c:=hid c;clear z hx hq h0 h1 hR hs ht hD F D hb a0 a7 O;go_wp2_with fail;refine d.out.mono ?_
   rintro e w3 ⟨rfl,a2⟩;have q3:=hid (c.out w3 a2);clear a2;go_wp2_with fail;go_roundg (m.length - (k+1))
   case measure=>omega
   case rel=>exact⟨k+1,by omega,by go_num,rfl,q3.out⟩
  ·obtain rfl:k=m.length:=by omega
   have a1:decide ((m.length:Int)<(m.length:Int))=false:=by simp
   rw[List.take_length,hP.out] at hs ht;dsimp only at hs ht;obtain⟨ps,cs,rfl⟩:=X0b (X0a hs);obtain⟨pt,ct,rfl⟩:=X0b (X0a ht);have e0:=X00 h0 0 _ rfl;have e1:=X00 h1 0 _ rfl;have r4:=X00 hR 0 _ rfl;have f4:=X06 hR 0;have n0:=hid (show w.heap.size+1≠w.heap.size by omega);have n1:=hid (show w.heap.size+1≠w.heap.size+2 by omega);have o8:=hid (X1d hs ⟨w.heap.size+1,0,none⟩ (.slice ps P1.length cs) (.inr (X2J X33 hs hR)));have o9:=hid (X1d ht ⟨w.heap.size+1,0,none⟩ (.slice ps P1.length cs) (.inr (X2J X33 ht hR)))
   have a6:=hid (hb.setCell (p:=⟨w.heap.size+1,0,none⟩) (Nat.le_succ _) (.slice ps P1.length cs));have d4:=X00 (X7z (u:= .slice ps P1.length cs) hR) 0 _ rfl;clear hs ht hD F D hb h0 h1;replace hR:=hid hR;go_upto_region 9 with(fail);refine wp_region_held_drew (S:=fun w'=>w'.cell? ⟨w.heap.size,0,none⟩=some (.slice ps P1.length cs)∧w'.cell? ⟨w.heap.size+2,0,none⟩=some (.slice pt P2.length ct)) (by kernel_rfl) (⟨e0,e1⟩) (fun hS=>?_);refine' tk 0 rfl hS ?_;try simp only[putA]
   refine' tk 1 rfl hS ?_;try simp only[putA]
   refine rdy 2 rfl fun K hK=>?_;go_simp;go_wp2_with fail;refine hK.out _ _ (set22 n0.out n1.out hS) (fun hSn=>?_);clear hS;have hS:=hSn;clear hSn;clear hK K;try simp only[putA]
   refine' tk 3 rfl hS ?_;try simp only[putA]
   refine wpAnyH_done (by kernel_rfl) ?_ _;go_wp2_with fail;refine bodyPost_ret (v:= .tuple #[.agg #[.slice ps P1.length cs], .slice pt P2.length ct]) ?_ rfl ⟨_,_,rfl,o8.out,o9.out,a6.out.drew⟩;simp [results,Tryz.results111,go_sem,d4]
end Go.Proofs.YtkofnpkopbnocaaGreatDoor
