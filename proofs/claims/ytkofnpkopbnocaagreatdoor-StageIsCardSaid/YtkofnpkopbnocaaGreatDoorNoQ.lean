import Derived.Test.YtkofnpkopbnocaaGreatDoorTk
import Derived.Test.YtkofnpkopbnocaaGreatDoorNoP
set_option linter.unusedSimpArgs false
set_option linter.unusedVariables false
set_option maxRecDepth 100000
set_option maxHeartbeats 3200000
namespace Go.Proofs.YtkofnpkopbnocaaGreatDoor
open Go.RowKit Go.Lib
theorem XAj{B:Nat}{w w1:World}{k:Nat}{cs:Array Value}{T:TypeId}(h:Blk w k cs T)(hk:k<B)(hb:Below B w w1):Blk w1 k cs T:=by
 unfold Blk at *
 rw[hb.block k hk];exact h
theorem set2{w:World}{a:Addr}{b:Nat}{x y u:Value}(hne:a.block≠b)(h:w.cell? ⟨b,0,none⟩=some x∧w.cell? ⟨b,1,none⟩=some y):(w.setCell a u).cell? ⟨b,0,none⟩=some x∧(w.setCell a u).cell? ⟨b,1,none⟩=some y:=by
 constructor
 ·rw[World.cell?_setCell_other]
  ·exact h.1
  ·intro e;exact hne (congrArg Addr.block e)
 ·rw[World.cell?_setCell_other]
  ·exact h.2
  ·intro e;exact hne (congrArg Addr.block e)
theorem XjM{B:Nat}{va:Value}{m:List Int}{w:World}(ho:OwnI B va m w)(hB:B≤w.heap.size):At9 B w.heap.size none (w.alloc (.cells #[va, .slice none 0 0] 169)) m [] va (.slice none 0 0) (w.alloc (.cells #[va, .slice none 0 0] 169)):=by
 refine⟨X0g _ _ _,X0B ho _,X0O _ _,hB,?_,(fun _ e=>by cases e),Below.refl _ _,(fun _ e=>by cases e)⟩;cases h:va.ownBlock with
 | none=>exact .inl rfl
 | some k=>exact .inr (fun e=>by cases e)
theorem XjN:Xe9:=by
 intro v l r w hl hv;obtain⟨p,cap,rfl⟩:=X0b hv;have g:=X0g w #[.slice p l.length cap] 41;have c:=X0l g (.cells #[.slice none 0 0] 41);have a:=X0g (w.alloc (.cells #[.slice p l.length cap] 41)) #[.slice none 0 0] 41;rw[show (w.alloc (.cells #[.slice p l.length cap] 41)).heap.size=w.heap.size+1 by simp] at a;have d:Below w.heap.size w ((w.alloc (.cells #[.slice p l.length cap] 41)).alloc (.cells #[.slice none 0 0] 41)):=(X04 w _).alloc (by simp) _;have E:w.heap.size+2≤((w.alloc (.cells #[.slice p l.length cap] 41)).alloc (.cells #[.slice none 0 0] 41)).heap.size:=by simp
 obtain⟨W,hW⟩: ∃W,(w.alloc (.cells #[.slice p l.length cap] 41)).alloc (.cells #[.slice none 0 0] 41)=W:=⟨_,rfl⟩;have s:=X03 hv d;rw[hW] at c a d s E;have h:=XfK (.slice p l.length cap) l W hl s;have j:=XjI l;have z:Nor.feedI l r=Nor.runI (wellI l) (Dcp.fullI r):=rfl;rw[z];obtain⟨m,hm⟩: ∃m,wellI l=m:=⟨_,rfl⟩;rw[hm] at h j ⊢;obtain⟨L,T,b⟩: ∃L T,Nor.runI m (Dcp.fullI r)=(L,T):=⟨_,_,rfl⟩;have x:=hid (show (Nor.runI m (Dcp.fullI r)).1=L∧(Nor.runI m (Dcp.fullI r)).2=T by rw[b];exact⟨rfl,rfl⟩);rw[b];replace c:=hid c;replace a:=hid a;replace d:=hid d;replace h:=hid h;replace hW:=hid hW
 replace j:=hid j;clear hv g z hm s b;go_enter Tryz.func110,Tryz.ntmps110;go_upto_region 1 with(fail);rw[hW.out];have b0:=X00 c.out 0 _ rfl;go_wp2_with fail;refine h.out.mono ?_;rintro e w2 ⟨va,rfl,i,f⟩;obtain⟨pa,ca,rfl⟩:=X0b (X0a i);replace i:=hid i;have n:=hid (X02 a.out f);replace f:=hid f;clear b0;go_wp2_with fail;have t:W.heap.size≤w2.heap.size:=f.out.size;have k:=XjL W.heap.size w2.heap.size m [] r _ _ _ j.out (by simp) (XjM i.out t);rw[List.nil_append,x.out.1,x.out.2] at k
 have y:=hid (d.out.trans ((f.out.alloc t (.cells #[Value.slice pa m.length ca, .slice none 0 0] 169)).mono d.out.size));replace n:=hid (X0l n.out (.cells #[Value.slice pa m.length ca, .slice none 0 0] 169));refine k.mono ?_;rintro e w4 ⟨rfl,vl,vt,q⟩;obtain⟨pl,cl,rfl⟩:=X0b (X0a q.kept);obtain⟨pt,ct,rfl⟩:=X0b (X0a q.told);have C:=hid (y.out.trans (q.below.mono (by omega)));have o:=XAj n.out (by omega) q.below;have r4:=X00 o 0 _ rfl;have f4:=X06 o 0;have q4:=hid q;have e0:=X00 q.box 0 _ rfl;have e1:=X00 q.box 1 _ rfl;have A:w.heap.size+1<W.heap.size:=by omega
 have B:=hid (show w.heap.size+1≠w2.heap.size by omega);clear q k;go_upto_region 3 with(fail);refine wp_region_held_drew (S:=fun w'=>w'.cell? ⟨w2.heap.size,0,none⟩=some (.slice pl L.length cl)∧w'.cell? ⟨w2.heap.size,1,none⟩=some (.slice pt T.length ct)) (by kernel_rfl) (⟨e0,e1⟩) (fun hS=>?_);refine' tk 0 rfl hS ?_;try simp only[putA]
 refine' tk 1 rfl hS ?_;try simp only[putA]
 refine' tk 2 rfl hS ?_;try simp only[putA]
 refine' tk 3 rfl hS ?_;try simp only[putA]
 refine rdy 4 rfl fun K hK=>?_;go_simp;go_wp2_with fail;refine hK.out _ _ (set2 B.out hS) (fun hSn=>?_);clear hS;have hS:=hSn;clear hSn;clear hK K;try simp only[putA]
 refine' tk 5 rfl hS ?_;try simp only[putA]
 refine wpAnyH_done (by kernel_rfl) ?_ _;have o1:=hid (X0w (X1d q4.out.kept ⟨w.heap.size+1,0,none⟩ (.slice pl L.length cl) (X2S q4.out.kept A)) (show w.heap.size≤W.heap.size by omega));have o2:=hid (X0w (X1d q4.out.told ⟨w.heap.size+1,0,none⟩ (.slice pl L.length cl) (X2S q4.out.told A)) (show w.heap.size≤W.heap.size by omega));have D:=hid (C.out.setCell (p:=⟨w.heap.size+1,0,none⟩) (Nat.le_succ _) (.slice pl L.length cl));have d4:=X00 (X7z (u:= .slice pl L.length cl) o) 0 _ rfl;go_wp2_with fail
 refine bodyPost_ret (v:= .tuple #[.agg #[.slice pl L.length cl], .slice pt T.length ct]) ?_ rfl ⟨_,_,rfl,o1.out,o2.out,D.out.drew⟩;simp [results,Tryz.results110,go_sem,d4]
theorem XlT(v:Value)(w:World):(Instr.field 41 (.agg #[v]) 0).run Tryz.prog w= .ok v w:=by kernel_rfl
theorem Xxv(v:Value)(l:List Int)(w:World)(hl:l.length≤10000)(hv:RI w v l):Calls Tryz.prog 117 #[.agg #[v]] w (Makes (Nor.endI l) w):=by
 obtain⟨p,cap,rfl⟩:=X0b hv;have a:=X0g w #[.slice p l.length cap] 41;have b:=X04 w (.cells #[.slice p l.length cap] 41);obtain⟨W,hW⟩: ∃W,w.alloc (.cells #[.slice p l.length cap] 41)=W:=⟨_,rfl⟩;have k:=X03 hv b;rw[hW] at a b k;rw[Xxt];have f:=XfK (.slice p l.length cap) l W hl k;have o:=Nor.X6K (XjI l);obtain⟨m,hm⟩: ∃m,wellI l=m:=⟨_,rfl⟩;rw[hm] at f o ⊢;have d:=fun V (W:World) h=>Xbk XEo XEp V m W (by omega) h;obtain⟨E,hE⟩: ∃E,Can.X0s m=E:=⟨_,rfl⟩;rw[hE] at d ⊢;replace d:=hid d;replace f:=hid f;replace hW:=hid hW;replace b:=hid b;replace a:=hid a;clear hv k hE hm
 go_enter Tryz.func117,Tryz.ntmps117;go_upto_region 1 with(fail);rw[hW.out];have b0:=X00 a.out 0 _ rfl;go_wp2_with fail;refine f.out.mono ?_;rintro e w2 ⟨va,rfl,i,c⟩;obtain⟨pa,ca,rfl⟩:=X0b (X0a i);have n:=hid (X0a i);replace c:=hid (b.out.trans (c.mono b.out.size));clear b0 i;have q:=XlT (.slice pa m.length ca) w2;go_wp2_with fail;refine(d.out _ _ n.out).mono ?_;rintro e w3 ⟨v3,rfl,j,g⟩;replace j:=hid j;replace g:=hid (X05 c.out g);go_wp2_with fail;go_ret;exact⟨_,rfl,X0w j.out c.out.size,g.out⟩
end Go.Proofs.YtkofnpkopbnocaaGreatDoor
