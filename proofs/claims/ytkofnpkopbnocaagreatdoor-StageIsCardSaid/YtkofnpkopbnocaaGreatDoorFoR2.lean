import Derived.Test.YtkofnpkopbnocaaGreatDoorPrRQ
import Derived.Test.YtkofnpkopbnocaaGreatDoorNoRP
import Derived.Deep.RegionHeld3
set_option linter.unusedSimpArgs false
set_option linter.unusedVariables false
set_option maxRecDepth 100000
set_option maxHeartbeats 6400000
namespace Go.Proofs.YtkofnpkopbnocaaGreatDoor
open Go.RowKit Go.Lib
def XyC(v:Value)(p:List Int × List Int)(w:World)(e:Ending)(w':World):Prop:=
 ∃va vb,e= .returned (.tuple #[.agg #[va],vb])∧RI w' va p.1∧OwnI w.heap.size vb p.2 w'∧(OwnI w.heap.size va p.1 w'∨(vb= .slice none 0 0∧(va=v∨va= .slice none 0 0)))∧Below w.heap.size w w'
theorem Xfo(l a:List Int)(r:Int):Nor.X1J l (a++ [r])=((Nor.feedI (Nor.X1J l a).1 r).1,(Nor.X1J l a).2++(Nor.feedI (Nor.X1J l a).1 r).2):=by
 rw[Nor.X4f];simp [Nor.X1J]
def Rel10(T:TypeId)(w w1:World)(VS:Value)(LL D:List Int)(k:Nat)(vo:Value)(wr:World):Prop:=
 ∃
  vs,Blk wr w.heap.size #[vs] T∧Blk wr (w.heap.size+1) #[.slice none 0 0] T∧RI wr vs (Nor.X1J LL (D.take k)).1∧OwnI w1.heap.size vo (Nor.X1J LL (D.take k)).2 wr
  ∧((k=0∧vo= .slice none 0 0∧vs=VS)∨OwnI w1.heap.size vs (Nor.X1J LL (D.take k)).1 wr)∧(∀c:Addr,c.block≠w.heap.size→c.block<w1.heap.size→wr.cell? c=w1.cell? c)∧Below w.heap.size w wr∧w1.heap.size≤wr.heap.size
theorem Xsz{l:List Int}(h:Nor.Kept l)(a:List Int):(Nor.X1J l a).1.length≤31∧(Nor.X1J l a).2.length≤31+8 *a.length:=by
 rw[Nor.Xe7 h];have h1:=Nor.X6K (Nor.Xnw h (Nfk.madeI a));have h2:=Nor.Xhp l (Nfk.madeI a);have h3:=Nor.X6K h;have h4:=Nor.X3u a;omega
theorem Xd8(v:Value)(l:List Int)(r:Int)(w:World)(hl:l.length≤1000)(hv:RI w v l):Calls Tryz.prog 94 #[.agg #[v], .int .i64 r] w (XyC v (Fol.feedI l r) w):=by
 obtain⟨i0,hi,aH,aI,aJ⟩:=info_parts X2p;obtain⟨p,cap,rfl⟩:=X0b hv;have ag:=X0g w #[.slice p l.length cap] 26;have a:=X0l ag (.cells #[.slice none 0 0] 26);have f:=X0g (w.alloc (.cells #[.slice p l.length cap] 26)) #[.slice none 0 0] 26;rw[show (w.alloc (.cells #[.slice p l.length cap] 26)).heap.size=w.heap.size+1 by simp] at f;have a3:Below w.heap.size w ((w.alloc (.cells #[.slice p l.length cap] 26)).alloc (.cells #[.slice none 0 0] 26)):=(X04 w _).alloc (by simp) _;obtain⟨W,hW⟩: ∃W,(w.alloc (.cells #[.slice p l.length cap] 26)).alloc (.cells #[.slice none 0 0] 26)=W:=⟨_,rfl⟩
 have ar:=X03 hv a3;rw[hW] at a f a3 ar;have I:=Xba (.slice p l.length cap) l W (by omega) ar;unfold Fol.feedI;obtain⟨D,hD⟩: ∃D,Fol.leftI [r]=D:=⟨_,rfl⟩;have aO:=Fol.XgD r;rw[hD] at aO ⊢;replace a:=hid a;replace f:=hid f;replace a3:=hid a3;replace ar:=hid ar;replace hW:=hid hW;replace hD:=hid hD;clear hv ag;cases hS:Nor.saneB l with
 |
  true=>
  rw[if_pos rfl];rw[hS] at I;replace I:=hid I;obtain⟨P,hP⟩: ∃P,Nor.X1J l D=P:=⟨_,rfl⟩;rw[hP];replace hP:=hid hP;go_enter Tryz.func94,Tryz.ntmps94;go_upto_region 1 with(fail);rw[hW.out];have b0:=X00 a.out 0 _ rfl;go_upto_region 3 with(go_at_call 80;refine I.out.mono ?_;rintro e w2 ⟨rfl,s⟩);have a4:=hid (X02 a.out s);have aU:=hid (X03 ar.out s);have ap:=hid (X02 f.out s);replace s:=hid (a3.out.trans (s.mono a3.out.size));have H:=X9E _ [r] (w2.alloc (.cells #[.int .i64 r] 3)) (by simp) (X0a (X0H w.heap.size w2 [r] #[.int .i64 r] w2.heap.size 1 rfl s.out.size rfl rfl (by unfold maxLen;omega)))
  rw[hD.out] at H;replace H:=hid H;clear b0;go_wp2_with fail;refine H.out.mono ?_;rintro e w3 ⟨vD,rfl,a2,a8⟩;have ae:=X04 w2 (.cells #[.int .i64 r] 3);have a0:=X05 ae (a8.mono (Nat.le_refl _));have aF:=hid (show w.heap.size<(w2.alloc (.cells #[.int .i64 r] 3)).heap.size by have:=X1h a4.out;simp;omega);obtain⟨pD,cD,rfl⟩:=X0b (X0a a2);have ai:=hid (X02 a4.out a0);have T:=hid (X02 ap.out a0);have aD:=hid (X03 aU.out a0);replace a8:=hid (s.out.trans (a0.mono s.out.size));replace a2:=hid a2;have O:=hid (Xsz (Nor.Xa3 hS));clear ae a0 hS;go_wp2_with fail
  go_loopg [7,8] D.length (fun g vo vi wr=>∃k:Nat,k≤D.length∧vi= .int .i64 k∧g=D.length - k∧Rel10 26 w w3 (.slice p l.length cap) l D k vo wr)
  case atStart=>exact⟨0,Nat.zero_le _,rfl,rfl, .slice p l.length cap,ai.out,T.out,aD.out,X0O _ _, .inl ⟨rfl,rfl,rfl⟩,fun _ _ _=>rfl,a8.out,Nat.le_refl _⟩
  case round=>
   obtain⟨k,hk,rfl,rfl,vs,a,f,E,n,V,C,z,F⟩:=hrel;obtain⟨ps,cs,rfl⟩:=X0b E;by_cases hlt:k<D.length
   ·have ak:(k:Int)<(D.length:Int):=by omega
    obtain⟨b,aK,he,aN,ah,L⟩:=X9K a2.out (by omega);simp at he;obtain⟨rfl,rfl⟩:=he;have af:b≠w.heap.size:=by have:=aF.out;omega
    have hc:wr.cell? ⟨b,k,none⟩=some (.int .i64 D[k]):=(C ⟨b,k,none⟩ af ah).trans (L k hlt);have aq:D.take (k+1)=D.take k++ [D[k]]:=by rw[List.take_succ_eq_append_getElem hlt]
    have d:=Xfo l (D.take k) D[k];rw[←aq] at d;obtain⟨ay,aa⟩:=O.out (D.take k);have y:=(O.out (D.take (k+1))).2;rw[d] at y;obtain⟨x,hx⟩: ∃x,D[k]=x:=⟨_,rfl⟩;rw[hx] at hc d y;obtain⟨m,hm⟩: ∃m,(Nor.X1J l (D.take k)).1=m:=⟨_,rfl⟩;obtain⟨o,ho⟩: ∃o,(Nor.X1J l (D.take k)).2=o:=⟨_,rfl⟩;rw[hm] at E d ay a y;rw[ho] at n d aa y;simp only[List.length_take,List.length_append] at aa y;have B:=fun(v':Value) (W:World) (hv':RI W v' m)=>XfN v' m x W (by omega) hv';obtain⟨q,hq⟩: ∃q,Nor.feedI m x=q:=⟨_,rfl⟩;rw[hq] at d B y;obtain⟨q1,q2⟩:=q;have aT:q2.length≤1000:=by dsimp only at y;omega
    have aS:o.length≤1000:=by omega
    have ax:w.heap.size<wr.heap.size:=X1h a;have aR:w.heap.size+1<wr.heap.size:=X1h f;have aQ:b<wr.heap.size:=Nat.lt_of_lt_of_le ah F;have a1:w.heap.size+1<w3.heap.size:=X1h T.out;have H2:=hid (show wr.cell? ⟨w.heap.size,0,none⟩=some (.slice ps m.length cs)∧wr.cell? ⟨b,k,none⟩=some (.int .i64 x) from⟨X00 a 0 _ rfl,hc⟩);replace B:=hid B;replace d:=hid d;replace n:=hid n;replace z:=hid z;replace E:=hid E;replace a:=hid a;replace f:=hid f;replace C:=hid C;replace F:=hid F;clear L aq hx hm ho hq hc V aa y;go_upto_region 8 with(fail);generalize ad:wr=wq at *
    go_cut [9,10] (fun u t wx=>Mid9 26 wq (q1,q2) u t wx)
    case first=>
     go_region_held3 (fun w'=>w'.cell? ⟨w.heap.size,0,none⟩=some (.slice ps m.length cs)∧w'.cell? ⟨b,k,none⟩=some (.int .i64 x))
      (first | exact H2.out | exact X3e (X2h (X04 wq _) H2.out) | exact X2h s H2.out | exact X3e (X2h (X04 w2 _) (X2h s H2.out)) | exact X2h s (X3e (X2h (X04 wq _) H2.out)) | exact Xhn (X2h s (X3e (X2h (X04 wq _) H2.out))) (by simp;omega) (by simp;omega))
      (first | (go_at_call 93;refine(B.out _ _ (by first | exact E.out | exact X3l (X03 E.out (X04 wq _)))).mono ?_;rintro e w2 ⟨va,vb,rfl,ha,ht,s⟩;obtain⟨pa,ca,rfl⟩:=X0b (X0a ha);replace ha:=hid ha;replace ht:=hid ht;try (have h5:=X02 (w:=(wq.alloc (Obj.cells #[Value.slice none 0 0] 26)).drew) (X0g wq #[Value.slice none 0 0] 26) s;have aL:=X00 h5 0 _ rfl;have aM:=X06 h5 0;replace h5:=hid h5)))
     all_goals go_wp2_with fail
     all_goals go_meet
     ·exact Xe5 ha.out ht.out s
     ·exact Xb8 ha.out ht.out s
    case rest=>
     obtain⟨bt,va,rfl,aP,N,ha,ht,K⟩:=hcut;obtain⟨pa,ca,rfl⟩:=X0b (X0a ha);have A:=X02 a.out K;have kt:=X00 N 0 _ rfl;have ks:=X00 A 0 _ rfl;have fs:=X06 A 0;have al:=hid (X7z (u:= .slice pa q1.length ca) A);have ab:=hid (Xu4 (j:=w.heap.size) (u:= .slice pa q1.length ca) (X02 f.out K) (by omega));have av:=hid (X1d ha ⟨w.heap.size,0,none⟩ (.slice pa q1.length ca) (X2S ha ax));have aC:=hid (X0Y (Xc4 ht A (Xc5 _ _ _) (.slice pa q1.length ca)));have an:=hid (X1d (X0x n.out K) ⟨w.heap.size,0,none⟩ (.slice pa q1.length ca) (X2S n.out (show w.heap.size<w3.heap.size by omega)));have G:=X5n ha n.out
     have R:=hid fun c (hc:c<w3.heap.size)=>Xe4 n.out hc;have a6:o.length+q2.length≤maxLen:=by unfold maxLen;omega
     have a7:(o.length+q2.length) *8≤140737488355328:=by omega
     have M:=hid ((z.out.trans (K.mono z.out.size)).setCell (p:=⟨w.heap.size,0,none⟩) (Nat.le_refl _) (.slice pa q1.length ca));have U:w3.heap.size≤(wc.setCell ⟨w.heap.size,0,none⟩ (.slice pa q1.length ca)).heap.size:=by have:=K.size;have:=F.out;simp;omega
     have a9: ∀c:Addr,c.block≠w.heap.size→c.block<w3.heap.size→(wc.setCell ⟨w.heap.size,0,none⟩ (.slice pa q1.length ca)).cell? c=w3.cell? c:=by
      intro c h1 h2;rw[World.cell?_setCell_other _ _ _ _ (fun e=>h1 (by rw[←e])),K.cell (Nat.lt_of_lt_of_le h2 F.out)];exact C.out c h1 h2
     replace a6:=hid a6;replace a7:=hid a7;replace U:=hid U;replace G:=hid G;replace N:=hid N;replace a9:=hid a9;have ao:=hid F.out;have az:=hid (R.out w.heap.size (by omega));have am:=hid (R.out (w.heap.size+1) a1);clear ha ht A K H2 B z E a ad
     go_wp2_with (at_builtin;refine X0c rfl _ _ 24 rfl w3.heap.size 3 i0 (.int .i64 0) 8 Tryz.underlying24 hi aH aI aJ rfl _ _ _ rfl an.out _ _ rfl aC.out (X0u q2) (by rw[List.length_map];exact a6.out) (by rw[List.length_map];exact a7.out) U.out ?_;intro v5 w5 S i;have o5:=hid (X0i (l:=o++q2) S (by simp) (by simp));have b5:=hid (X0k M.out i M.out.size an.out (by omega));have x5:=hid (X2B al.out i az.out);have y5:=hid (X2B ab.out i am.out);have a5:=hid (World.ownsRow.kept av.out i G.out);have z5:=hid (Nat.le_trans U.out i.size);have c5:=hid (fun(c:Addr) (h1:c.block≠w.heap.size) (h2:c.block<w3.heap.size)=>(World.cell?_of_block (w:=wc.setCell ⟨w.heap.size,0,none⟩ (.slice pa q1.length ca)) (i.block c.block (Nat.lt_of_lt_of_le h2 U.out) (R.out c.block h2))).trans (a9.out c h1 h2));clear S i)
     go_roundg (D.length - (k+1))
     case measure=>omega
     case rel=>exact⟨k+1,by omega,by go_num,rfl, .slice pa q1.length ca,x5.out,y5.out,by rw[d.out];exact X0a a5.out,by rw[d.out];exact o5.out, .inr (by rw[d.out];exact X0w a5.out ao.out),c5.out,b5.out,z5.out⟩
   ·obtain rfl:k=D.length:=by omega
    have ak:decide ((D.length:Int)<(D.length:Int))=false:=by simp
    rw[List.take_length] at E n V a;rw[hP.out] at E n V a;have b0:=X00 a 0 _ rfl;have c4:=X00 f 0 _ rfl;have f4:=X06 f 0;have aj:=hid (X7z (u:= .slice ps P.1.length cs) f);have aE:=hid (Xc4 E f (Xc5 _ _ _) (.slice ps P.1.length cs));have a1:w.heap.size+1<w3.heap.size:=X1h T.out;have aA:=hid (X0w (X1d n ⟨w.heap.size+1,0,none⟩ (.slice ps P.1.length cs) (X2S n a1)) (show w.heap.size≤w3.heap.size by omega));have aw:=hid (z.setCell (p:=⟨w.heap.size+1,0,none⟩) (by simp) (.slice ps P.1.length cs))
    have aB:=hid (show (_=_∧_=_)∨OwnI w.heap.size (.slice ps P.1.length cs) P.1 (wr.setCell ⟨w.heap.size+1,0,none⟩ (.slice ps P.1.length cs)) from V.imp (fun h=>h.2) (fun h=>X0w (X1d h ⟨w.heap.size+1,0,none⟩ (.slice ps P.1.length cs) (X2S h a1)) (by omega)));replace f:=hid f;clear E n z V C a;go_wp2_with fail;have c9:=X00 aj.out 0 _ rfl;refine bodyPost_ret (v:= .tuple #[.agg #[.slice ps P.1.length cs],_]) ?_ rfl ⟨_,_,rfl,aE.out,aA.out,aB.out.symm.imp id (fun h=>⟨h.1, .inl h.2⟩),aw.out⟩;simp [results,Tryz.results94,go_sem,c9]
 |
  false=>
  rw[if_neg (by simp)];rw[hS] at I;replace I:=hid I;obtain⟨P,hP⟩: ∃P,Nor.X1J [] D=P:=⟨_,rfl⟩;rw[hP];replace hP:=hid hP;clear hS;go_enter Tryz.func94,Tryz.ntmps94;go_upto_region 1 with(fail);rw[hW.out];have b0:=X00 a.out 0 _ rfl;go_upto_region 2 with(go_at_call 80;refine I.out.mono ?_;rintro e wz ⟨rfl,au⟩);have ac:=X02 a.out au;have cz:=X00 ac 0 _ rfl;have fz:=X06 ac 0;have a4:=hid (X7z (u:= .slice none 0 0) ac);have ap:=hid (Xu4 (j:=w.heap.size) (u:= .slice none 0 0) (X02 f.out au) (by omega));have aG:=a3.out.trans (au.mono a3.out.size)
  have s:=hid (aG.setCell (p:=⟨w.heap.size,0,none⟩) (Nat.le_refl _) (.slice none 0 0));clear b0 ac aG au;go_upto_region 3 with(fail);generalize ad:wz.setCell ⟨w.heap.size,0,none⟩ (.slice none 0 0)=w2 at *
  have H:=X9E _ [r] (w2.alloc (.cells #[.int .i64 r] 3)) (by simp) (X0a (X0H w.heap.size w2 [r] #[.int .i64 r] w2.heap.size 1 rfl s.out.size rfl rfl (by unfold maxLen;omega)));rw[hD.out] at H;replace H:=hid H;replace ad:=hid ad;clear cz fz;go_wp2_with fail;refine H.out.mono ?_;rintro e w3 ⟨vD,rfl,a2,a8⟩;have ae:=X04 w2 (.cells #[.int .i64 r] 3);have a0:=X05 ae (a8.mono (Nat.le_refl _));have aF:=hid (show w.heap.size<(w2.alloc (.cells #[.int .i64 r] 3)).heap.size by have:=X1h a4.out;simp;omega);obtain⟨pD,cD,rfl⟩:=X0b (X0a a2);have ai:=hid (X02 a4.out a0);have T:=hid (X02 ap.out a0)
  have aD:=hid (X9J w3);replace a8:=hid (s.out.trans (a0.mono s.out.size));replace a2:=hid a2;have O:=hid (Xsz Nor.Xa4);clear ae a0;go_wp2_with fail;go_loopg [7,8] D.length (fun g vo vi wr=>∃k:Nat,k≤D.length∧vi= .int .i64 k∧g=D.length - k∧Rel10 26 w w3 (.slice none 0 0) [] D k vo wr)
  case atStart=>exact⟨0,Nat.zero_le _,rfl,rfl, .slice none 0 0,ai.out,T.out,aD.out,X0O _ _, .inl ⟨rfl,rfl,rfl⟩,fun _ _ _=>rfl,a8.out,Nat.le_refl _⟩
  case round=>
   obtain⟨k,hk,rfl,rfl,vs,a,f,E,n,V,C,z,F⟩:=hrel;obtain⟨ps,cs,rfl⟩:=X0b E;by_cases hlt:k<D.length
   ·have ak:(k:Int)<(D.length:Int):=by omega
    obtain⟨b,aK,he,aN,ah,L⟩:=X9K a2.out (by omega);simp at he;obtain⟨rfl,rfl⟩:=he;have af:b≠w.heap.size:=by have:=aF.out;omega
    have hc:wr.cell? ⟨b,k,none⟩=some (.int .i64 D[k]):=(C ⟨b,k,none⟩ af ah).trans (L k hlt);have aq:D.take (k+1)=D.take k++ [D[k]]:=by rw[List.take_succ_eq_append_getElem hlt]
    have d:=Xfo [] (D.take k) D[k];rw[←aq] at d;obtain⟨ay,aa⟩:=O.out (D.take k);have y:=(O.out (D.take (k+1))).2;rw[d] at y;obtain⟨x,hx⟩: ∃x,D[k]=x:=⟨_,rfl⟩;rw[hx] at hc d y;obtain⟨m,hm⟩: ∃m,(Nor.X1J [] (D.take k)).1=m:=⟨_,rfl⟩;obtain⟨o,ho⟩: ∃o,(Nor.X1J [] (D.take k)).2=o:=⟨_,rfl⟩;rw[hm] at E d ay a y;rw[ho] at n d aa y;simp only[List.length_take,List.length_append] at aa y;have B:=fun(v':Value) (W:World) (hv':RI W v' m)=>XfN v' m x W (by omega) hv';obtain⟨q,hq⟩: ∃q,Nor.feedI m x=q:=⟨_,rfl⟩;rw[hq] at d B y;obtain⟨q1,q2⟩:=q;have aT:q2.length≤1000:=by dsimp only at y;omega
    have aS:o.length≤1000:=by omega
    have ax:w.heap.size<wr.heap.size:=X1h a;have aR:w.heap.size+1<wr.heap.size:=X1h f;have aQ:b<wr.heap.size:=Nat.lt_of_lt_of_le ah F;have a1:w.heap.size+1<w3.heap.size:=X1h T.out;have H2:=hid (show wr.cell? ⟨w.heap.size,0,none⟩=some (.slice ps m.length cs)∧wr.cell? ⟨b,k,none⟩=some (.int .i64 x) from⟨X00 a 0 _ rfl,hc⟩);replace B:=hid B;replace d:=hid d;replace n:=hid n;replace z:=hid z;replace E:=hid E;replace a:=hid a;replace f:=hid f;replace C:=hid C;replace F:=hid F;clear L aq hx hm ho hq hc V aa y;go_upto_region 8 with(fail);generalize ad:wr=wq at *
    go_cut [9,10] (fun u t wx=>Mid9 26 wq (q1,q2) u t wx)
    case first=>
     go_region_held3 (fun w'=>w'.cell? ⟨w.heap.size,0,none⟩=some (.slice ps m.length cs)∧w'.cell? ⟨b,k,none⟩=some (.int .i64 x))
      (first | exact H2.out | exact X3e (X2h (X04 wq _) H2.out) | exact X2h s H2.out | exact X3e (X2h (X04 w2 _) (X2h s H2.out)) | exact X2h s (X3e (X2h (X04 wq _) H2.out)) | exact Xhn (X2h s (X3e (X2h (X04 wq _) H2.out))) (by simp;omega) (by simp;omega))
      (first | (go_at_call 93;refine(B.out _ _ (by first | exact E.out | exact X3l (X03 E.out (X04 wq _)))).mono ?_;rintro e w2 ⟨va,vb,rfl,ha,ht,s⟩;obtain⟨pa,ca,rfl⟩:=X0b (X0a ha);replace ha:=hid ha;replace ht:=hid ht;try (have h5:=X02 (w:=(wq.alloc (Obj.cells #[Value.slice none 0 0] 26)).drew) (X0g wq #[Value.slice none 0 0] 26) s;have aL:=X00 h5 0 _ rfl;have aM:=X06 h5 0;replace h5:=hid h5)))
     all_goals go_wp2_with fail
     all_goals go_meet
     ·exact Xe5 ha.out ht.out s
     ·exact Xb8 ha.out ht.out s
    case rest=>
     obtain⟨bt,va,rfl,aP,N,ha,ht,K⟩:=hcut;obtain⟨pa,ca,rfl⟩:=X0b (X0a ha);have A:=X02 a.out K;have kt:=X00 N 0 _ rfl;have ks:=X00 A 0 _ rfl;have fs:=X06 A 0;have al:=hid (X7z (u:= .slice pa q1.length ca) A);have ab:=hid (Xu4 (j:=w.heap.size) (u:= .slice pa q1.length ca) (X02 f.out K) (by omega));have av:=hid (X1d ha ⟨w.heap.size,0,none⟩ (.slice pa q1.length ca) (X2S ha ax));have aC:=hid (X0Y (Xc4 ht A (Xc5 _ _ _) (.slice pa q1.length ca)));have an:=hid (X1d (X0x n.out K) ⟨w.heap.size,0,none⟩ (.slice pa q1.length ca) (X2S n.out (show w.heap.size<w3.heap.size by omega)));have G:=X5n ha n.out
     have R:=hid fun c (hc:c<w3.heap.size)=>Xe4 n.out hc;have a6:o.length+q2.length≤maxLen:=by unfold maxLen;omega
     have a7:(o.length+q2.length) *8≤140737488355328:=by omega
     have M:=hid ((z.out.trans (K.mono z.out.size)).setCell (p:=⟨w.heap.size,0,none⟩) (Nat.le_refl _) (.slice pa q1.length ca));have U:w3.heap.size≤(wc.setCell ⟨w.heap.size,0,none⟩ (.slice pa q1.length ca)).heap.size:=by have:=K.size;have:=F.out;simp;omega
     have a9: ∀c:Addr,c.block≠w.heap.size→c.block<w3.heap.size→(wc.setCell ⟨w.heap.size,0,none⟩ (.slice pa q1.length ca)).cell? c=w3.cell? c:=by
      intro c h1 h2;rw[World.cell?_setCell_other _ _ _ _ (fun e=>h1 (by rw[←e])),K.cell (Nat.lt_of_lt_of_le h2 F.out)];exact C.out c h1 h2
     replace a6:=hid a6;replace a7:=hid a7;replace U:=hid U;replace G:=hid G;replace N:=hid N;replace a9:=hid a9;have ao:=hid F.out;have az:=hid (R.out w.heap.size (by omega));have am:=hid (R.out (w.heap.size+1) a1);clear ha ht A K H2 B z E a ad
     go_wp2_with (at_builtin;refine X0c rfl _ _ 24 rfl w3.heap.size 3 i0 (.int .i64 0) 8 Tryz.underlying24 hi aH aI aJ rfl _ _ _ rfl an.out _ _ rfl aC.out (X0u q2) (by rw[List.length_map];exact a6.out) (by rw[List.length_map];exact a7.out) U.out ?_;intro v5 w5 S i;have o5:=hid (X0i (l:=o++q2) S (by simp) (by simp));have b5:=hid (X0k M.out i M.out.size an.out (by omega));have x5:=hid (X2B al.out i az.out);have y5:=hid (X2B ab.out i am.out);have a5:=hid (World.ownsRow.kept av.out i G.out);have z5:=hid (Nat.le_trans U.out i.size);have c5:=hid (fun(c:Addr) (h1:c.block≠w.heap.size) (h2:c.block<w3.heap.size)=>(World.cell?_of_block (w:=wc.setCell ⟨w.heap.size,0,none⟩ (.slice pa q1.length ca)) (i.block c.block (Nat.lt_of_lt_of_le h2 U.out) (R.out c.block h2))).trans (a9.out c h1 h2));clear S i)
     go_roundg (D.length - (k+1))
     case measure=>omega
     case rel=>exact⟨k+1,by omega,by go_num,rfl, .slice pa q1.length ca,x5.out,y5.out,by rw[d.out];exact X0a a5.out,by rw[d.out];exact o5.out, .inr (by rw[d.out];exact X0w a5.out ao.out),c5.out,b5.out,z5.out⟩
   ·obtain rfl:k=D.length:=by omega
    have ak:decide ((D.length:Int)<(D.length:Int))=false:=by simp
    rw[List.take_length] at E n V a;rw[hP.out] at E n V a;have b0:=X00 a 0 _ rfl;have c4:=X00 f 0 _ rfl;have f4:=X06 f 0;have aj:=hid (X7z (u:= .slice ps P.1.length cs) f);have aE:=hid (Xc4 E f (Xc5 _ _ _) (.slice ps P.1.length cs));have a1:w.heap.size+1<w3.heap.size:=X1h T.out;have aA:=hid (X0w (X1d n ⟨w.heap.size+1,0,none⟩ (.slice ps P.1.length cs) (X2S n a1)) (show w.heap.size≤w3.heap.size by omega));have aw:=hid (z.setCell (p:=⟨w.heap.size+1,0,none⟩) (by simp) (.slice ps P.1.length cs))
    have aB:=hid (show (_=_∧_=_)∨OwnI w.heap.size (.slice ps P.1.length cs) P.1 (wr.setCell ⟨w.heap.size+1,0,none⟩ (.slice ps P.1.length cs)) from V.imp (fun h=>h.2) (fun h=>X0w (X1d h ⟨w.heap.size+1,0,none⟩ (.slice ps P.1.length cs) (X2S h a1)) (by omega)));replace f:=hid f;clear E n z V C a;go_wp2_with fail;have c9:=X00 aj.out 0 _ rfl;refine bodyPost_ret (v:= .tuple #[.agg #[.slice ps P.1.length cs],_]) ?_ rfl ⟨_,_,rfl,aE.out,aA.out,aB.out.symm.imp id (fun h=>⟨h.1, .inr h.2⟩),aw.out⟩;simp [results,Tryz.results94,go_sem,c9]
end Go.Proofs.YtkofnpkopbnocaaGreatDoor
