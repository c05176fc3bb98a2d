import Derived.Test.YtkofnpkopbnocaaGreatDoorTk
import Derived.Test.YtkofnpkopbnocaaGreatDoorStBk
import Derived.Test.YtkofnpkopbnocaaGreatDoorChPk
import Derived.Test.YtkofnpkopbnocaaGreatDoorMaSk
import Derived.Deep.DeepCutAuto
import Derived.Test.YtkofnpkopbnocaaGreatDoorMaBP
import Derived.Test.YtkofnpkopbnocaaGreatDoorBasP
set_option linter.unusedSimpArgs false
set_option linter.unusedVariables false
set_option maxRecDepth 100000
set_option maxHeartbeats 12800000
namespace Go.Proofs.YtkofnpkopbnocaaGreatDoor
def lq9e8b:List (Nat × Nat):= [(0,33),(1,34),(2,35),(3,36),(4,37),(5,38),(6,32),(7,39),(9,16),(8,40)]
open Go Go.RowKit Go.Lib
open Mch (MS)
open Stg (Ch St)
theorem XFt{ev:Operand→Value}{x0 x1 x2 x3:Operand}{d:Option Tmp}{ty:TypeId}{po:String}{af:Array Edge}{gd:Option (Nat × Bool)}{M:Array Value}(hM:M.size=9){p:Option Addr}{n c:Nat}{e h:Bool}(w:World)(h0:ev x0= .agg M:=by rfl)(h1:ev x1= .slice p n c:=by rfl)(h2:ev x2= .bool e:=by rfl)(h3:ev x3= .bool h:=by rfl):
 (execOp ev ⟨d, .build TR17 #[(0,x0),(1,x1),(2,x2),(3,x3)],ty,po,af,gd⟩).run Tryz.prog w= .ok (.value (.agg (M++ #[.slice p n c, .bool e, .bool h]))) w:=by
 obtain⟨m0,m1,m2,m3,m4,m5,m6,m7,m8,rfl⟩:=nine hM;unfold execOp;simp only[List.map_toArray,List.map_cons,List.map_nil,h0,h1,h2,h3];kernel_rfl
def XFx:Prop:=∀ (J:Nat→Prop) (v:Value) (s:St) (w:World),Old J w→s.Small→RS J w v s→Calls Tryz.prog 38 #[v] w fun e w'=>∃v',e= .returned v'∧RS J w' v' (Stg.asS s)∧Below w.heap.size w w'
def XFu:Prop:=∀ (J:Nat→Prop) (v:Value) (s:St) (vi:Value) (i:Ch) (vo:Value) (o:Ch) (w:World),Old J w→s.pend≠ []→s.Small→i.Few→o.Few→RS J w v s→RCh J w vi i→RCh J w vo o→Calls Tryz.prog 40 #[v,vi,vo] w (XeD J (if (Stg.putC o (s.pend.take 8)).2=true then (⟨s.m,s.pend.drop 8,s.ended,false⟩,i,(Stg.putC o (s.pend.take 8)).1,true) else (s,i,o,false)) w)
def XFv:Prop:=∀ (J:Nat→Prop) (v:Value) (s:St) (vi:Value) (i:Ch) (vo:Value) (o:Ch) (w:World),Old J w→s.Small→Mch.saneM s.m=true→Stg.saneC i=true→i.Few→o.Few→i.Wf→RS J w v s→RCh J w vi i→RCh J w vo o→Calls Tryz.prog 42 #[v,vi,vo] w (XeD J (⟨(Mch.X0N s.m (Stg.takeC i).2.1).1,(Mch.X0N s.m (Stg.takeC i).2.1).2,false,false⟩,(Stg.takeC i).1,o,true) w)
def XFw:Prop:=∀ (v:Value) (m:MS) (w:World),Mch.Small m→RM w v m→Calls Tryz.prog 43 #[v] w (FedM v (Mch.endM m) w)
theorem XFy(hA:XFx)(hP:XFu)(hF:XFv)(hE:XFw)(J:Nat→Prop)(v:Value)(s:St)(vi:Value)(i:Ch)(vo:Value)(o:Ch)(w:World)(hold:Old J w)(hs:s.Small)(hfi:i.Few)(hfo:o.Few)(hwi:i.Wf)(hv:RS J w v s)(hi:RCh J w vi i)(ho:RCh J w vo o):Calls Tryz.prog 14 #[v,vi,vo] w (XeD J (Stg.stepS s i o) w):=by
 have ad:=fun V W h1 h3=>hA (Jx J w) V s W h1 hs h3;have hI:=fun V W h=>ras16 (Jx J w) V i W hfi h;have hO:=fun V W h=>ras16 (Jx J w) V o W hfo h;have G:=Stg.XnT s;have y:=Stg.X2I i;have R:=Stg.X2I o;have A:I64 (Stg.asS s).m.kind:=by
  unfold Stg.asS
  split
  ·exact hs.k
  ·unfold Stg.newS Mch.newM
   split
   ·exact hs.k
   ·decide
 have a4:(Stg.asC i).Wf:=by
  unfold Stg.asC
  split
  ·exact hwi
  ·intro b hb;cases hb
 unfold Stg.stepS;obtain⟨t,ht⟩: ∃t,Stg.asS s=t:=⟨_,rfl⟩;obtain⟨i2,am⟩: ∃t,Stg.asC i=t:=⟨_,rfl⟩;obtain⟨o2,aq⟩: ∃t,Stg.asC o=t:=⟨_,rfl⟩;rw[ht] at ad G A ⊢;rw[am] at hI y a4 ⊢;rw[aq] at hO R ⊢;have a8:t.Small:=by
  have h2:=G;exact⟨Mch.small_sane h2.m,by have:=h2.pend;omega,A⟩
 obtain⟨q0,a⟩: ∃q,Stg.stepK t i2 o2=q:=⟨_,rfl⟩;rw[a];unfold Stg.stepK at a;replace a:=hid a;have a0:=X1n y;have E:=X1n R;have ap:=(Stg.X11 i2).1 y;clear ht am aq hA hs hfi hfo hwi A;obtain⟨X,rfl,ag,ah⟩:=rs_x hv;obtain⟨Y,rfl,ai,aj,_⟩:=rch_x hi;obtain⟨Z,rfl,ak,al,_⟩:=rch_x ho;obtain⟨W,hW,x0,x1,x2,r0,r1,r2,bq⟩:=six (w:=w) (vx_S ag ah) (vx_C ai aj) (vx_C ak al) vz_S vz_C vz_C;have rs:=hid (X08 (XFC (K:=Jx J w) hv XFB) bq);have ri:=hid (X01 (XFA (K:=Jx J w) hi XFB) bq);have ro:=hid (X01 (XFA (K:=Jx J w) ho XFB) bq);have hJ: ∀W',W.heap.size≤W'.heap.size→Old (Jx J w) W':=fun W' h j hj=>by
  have:=X1h r2.blk;rcases hj with hj | hj
  ·have:=hold j hj;omega
  ·omega
 have hz:=X1h r2.blk;unfold zeroS zeroC TR17 TR16 at *
 clear hv hi ho hold;replace hW:=hid hW;replace x0:=hid x0;replace x1:=hid x1;replace x2:=hid x2;replace r0:=hid r0;replace r1:=hid r1;replace r2:=hid r2;replace bq:=hid bq;replace hJ:=hid hJ;replace G:=hid G;replace y:=hid y;replace R:=hid R;replace ap:=hid ap;clear ag ah ai aj ak al;go_enter Tryz.func14,Tryz.ntmps14;go_upto_region 1 with(fail);rw[hW.out];go_wp2_with (refine ldX x0.out ?_);refine(ad _ W (hJ.out _ (Nat.le_refl _)) rs.out).mono ?_;rintro e w1 ⟨v1,rfl,rt,q⟩;obtain⟨XT,rfl,av,aw⟩:=rs_x rt;have vt:=hid (vx_S av aw);replace rt:=hid rt;have aG:=q.size;replace x1:=hid (XFa x1.out q)
 replace x2:=hid (XFa x2.out q);replace r0:=hid (XFa r0.out q);replace r1:=hid (XFa r1.out q);replace r2:=hid (XFa r2.out q);replace bq:=hid (X05 bq.out q);replace ri:=hid (X01 ri.out q);replace ro:=hid (X01 ro.out q);clear q x0 rs aw;go_upto_region 2 with(refine stX (XFb vz_S w1) vt.out fun w2 p=>?_);have q:=p.below _ _ (Nat.le_refl _) (X04 w1 _);have t0:=hid (XFg p vt.out);clear p;have aH:=q.size;have aI:=X1h t0.out.blk;replace x1:=hid (XFa x1.out q);replace x2:=hid (XFa x2.out q);replace r0:=hid (XFa r0.out q);replace r1:=hid (XFa r1.out q);replace r2:=hid (XFa r2.out q)
 replace bq:=hid (X05 bq.out q);replace rt:=hid (X08 rt.out q);replace ri:=hid (X01 ri.out q);replace ro:=hid (X01 ro.out q);clear q;go_wp2_with (refine ldX x1.out ?_);refine(hI _ w2 ri.out).mono ?_;rintro e w3 ⟨v3,rfl,rj,q⟩;obtain⟨YT,rfl,an,ao,a6,a7⟩:=rch_x rj;have vj:=hid (vx_C an ao);replace rj:=hid rj;replace a6:=hid a6;replace a7:=hid a7;have aJ:=q.size;replace x2:=hid (XFa x2.out q);replace r0:=hid (XFa r0.out q);replace r1:=hid (XFa r1.out q);replace r2:=hid (XFa r2.out q);replace bq:=hid (X05 bq.out q);replace t0:=hid (XFa t0.out q);replace rt:=hid (X08 rt.out q)
 replace ro:=hid (X01 ro.out q);clear q x1 ri an ao;go_upto_region 3 with(refine stX (XFb vz_C w3) vj.out fun w4 p=>?_);have q:=p.below _ _ (Nat.le_refl _) (X04 w3 _);have t1:=hid (XFg p vj.out);clear p;have aK:=q.size;have aL:=X1h t1.out.blk;replace x2:=hid (XFa x2.out q);replace r0:=hid (XFa r0.out q);replace r1:=hid (XFa r1.out q);replace r2:=hid (XFa r2.out q);replace bq:=hid (X05 bq.out q);replace t0:=hid (XFa t0.out q);replace rt:=hid (X08 rt.out q);replace rj:=hid (X01 rj.out q);replace ro:=hid (X01 ro.out q);clear q;go_wp2_with (refine ldX x2.out ?_);refine(hO _ w4 ro.out).mono ?_
 rintro e w5 ⟨v5,rfl,rp,q⟩;obtain⟨ZT,rfl,ar,au,ax,ay⟩:=rch_x rp;have vp:=hid (vx_C ar au);replace rp:=hid rp;have aM:=q.size;replace r0:=hid (XFa r0.out q);replace r1:=hid (XFa r1.out q);replace r2:=hid (XFa r2.out q);replace bq:=hid (X05 bq.out q);replace t0:=hid (XFa t0.out q);replace t1:=hid (XFa t1.out q);replace rt:=hid (X08 rt.out q);replace rj:=hid (X01 rj.out q);clear q x2 ro ar au ax ay;go_upto_region 4 with(refine stX (XFb vz_C w5) vp.out fun w6 p=>?_);have q:=p.below _ _ (Nat.le_refl _) (X04 w5 _);have t2:=hid (XFg p vp.out);clear p;have aN:=q.size;replace r0:=hid (XFa r0.out q)
 replace r1:=hid (XFa r1.out q);replace r2:=hid (XFa r2.out q);replace bq:=hid (X05 bq.out q);replace t0:=hid (XFa t0.out q);replace t1:=hid (XFa t1.out q);replace rt:=hid (X08 rt.out q);replace rj:=hid (X01 rj.out q);replace rp:=hid (X01 rp.out q);clear q;obtain⟨h0,⟨pp,cp,h9,F⟩,ab,ac,hM⟩:=XFp rt.out;have c9:=XFe t0.out 9 _ h9;have a9:=XFe t0.out 10 _ ab;have aa:=XFe t0.out 11 _ ac;obtain⟨pi,ki,a3⟩:=a6.out;have d0:=XFe t1.out 0 _ a3;have d1:=XFe t1.out 1 _ a7.out;clear h0 h9 ab ac a3;replace F:=hid F;replace hM:=hid hM;cases T:t.shut with
 |
  true=>
  have d:q0=(t,i2,o2,false):=by rw[←a.out,if_pos T]
  subst d;rw[T] at aa;go_upto_region 5 with(fail);refine wp_region_held_drew (S:=S3 Tryz.prog w1.heap.size w3.heap.size w5.heap.size XT YT ZT 34 37) (by kernel_rfl) ⟨XFa t0.out (Below.refl _ _).drew,XFa t1.out (Below.refl _ _).drew,XFa t2.out (Below.refl _ _).drew⟩ (fun hS=>?_);replace r0:=hid (XFa r0.out (Below.refl _ _).drew);replace r1:=hid (XFa r1.out (Below.refl _ _).drew);replace r2:=hid (XFa r2.out (Below.refl _ _).drew);replace bq:=hid (X05 bq.out (Below.refl _ _).drew);replace rt:=hid (X08 rt.out (Below.refl _ _).drew);replace rj:=hid (X01 rj.out (Below.refl _ _).drew)
  replace rp:=hid (X01 rp.out (Below.refl _ _).drew);refine' tkL 0 rfl (fun _ h=>h.1) hS ?_;try simp only[putA]
  refine' tkL 1 rfl (fun _ h=>h.2.1) hS ?_;try simp only[putA]
  refine' tkL 2 rfl (fun _ h=>h.2.2) hS ?_;try simp only[putA]
  refine' tkS 3 rfl r0.out vt.out (fun H p0=>?_);have g:=XFE hS p0 (by omega) (by omega) (by omega);refine⟨g,?_⟩;replace hS:=g;clear g;try simp only[putA]
  have u:=XFf (J:=Jx J w) p0 (.inr ⟨by omega,by omega⟩);have s0:=hid (XFg p0 vt.out);replace r1:=hid (XFh r1.out p0 (by omega));replace r2:=hid (XFh r2.out p0 (by omega));replace rt:=hid (X3f rt.out u);replace rj:=hid (X0L rj.out u);replace rp:=hid (X0L rp.out u);replace bq:=hid (p0.below _ _ (by omega) bq.out);clear u p0;refine' tkS 4 rfl r1.out vj.out (fun I p1=>?_);have g:=XFE hS p1 (by omega) (by omega) (by omega);refine⟨g,?_⟩;replace hS:=g;clear g;try simp only[putA]
  have u:=XFf (J:=Jx J w) p1 (.inr ⟨by omega,by omega⟩);have s1:=hid (XFg p1 vj.out);replace r2:=hid (XFh r2.out p1 (by omega));replace s0:=hid (XFh s0.out p1 (by omega));replace rt:=hid (X3f rt.out u);replace rj:=hid (X0L rj.out u);replace rp:=hid (X0L rp.out u);replace bq:=hid (p1.below _ _ (by omega) bq.out);clear u p1;refine' tkS 5 rfl r2.out vp.out (fun L p2=>?_);have g:=XFE hS p2 (by omega) (by omega) (by omega);refine⟨g,?_⟩;replace hS:=g;clear g;try simp only[putA]
  have u:=XFf (J:=Jx J w) p2 (.inr ⟨by omega,by omega⟩);have s2:=hid (XFg p2 vp.out);replace s0:=hid (XFh s0.out p2 (by omega));replace s1:=hid (XFh s1.out p2 (by omega));replace rt:=hid (X3f rt.out u);replace rj:=hid (X0L rj.out u);replace rp:=hid (X0L rp.out u);replace bq:=hid (p2.below _ _ (by omega) bq.out);clear u p2;refine' tk 6 rfl hS ?_;try simp only[putA]
  refine wpAnyH_done (by kernel_rfl) ?_ _;clear hS;go_wp2_with fail;exact bodyPost_ret (res4 (v:= .bool false) s0.out s1.out s2.out) rfl ⟨_,_,_,rfl,X3s rt.out (fun _ _ h=>Or.inl h),X0Q rj.out (fun _ _ h=>Or.inl h),X0Q rp.out (fun _ _ h=>Or.inl h),bq.out⟩
 |
  false=>
  replace a:=hid ((if_neg (by rw[T];simp)).symm.trans a.out);rw[T] at aa;by_cases hpe:t.pend= []
  ·replace a:=hid ((if_neg (by simpa using hpe)).symm.trans a.out);have az: ¬(0:Int)<(t.pend.length:Int):=by rw[hpe];simp
   have aD:(t.pend.length:Int)≤0:=by rw[hpe];simp
   obtain⟨M,O⟩: ∃M,XT.extract 0 9=M:=⟨_,rfl⟩;have N:M.size=9:=by rw[←O,Array.size_extract,av];rfl
   have aB:=hid N;have hM:=hM;rw[O] at hM;obtain⟨M',a5,_,ae,_⟩:=rmo_x hM.out;injection a5 with a5;subst a5;have vm:=hid (vx_M N ae);have af:=hid (show M=XT.extract 0 (0+M.size) by rw[N];exact O.symm);clear O;cases P:t.ended with
   |
    true=>
    have d:q0=(⟨t.m,[],true,true⟩,i2,Stg.X1y o2,true):=by rw[←a.out,if_pos P]
    subst d;rw[P] at a9;have vn:=hid (vx_S (X:=M++ #[.slice none 0 0, .bool true, .bool true]) (by simp [N]) (by rw[Array.all_append,ae];kernel_rfl));go_upto_region 9 with(fail);refine wp_region_held_drew (S:=S3 Tryz.prog w1.heap.size w3.heap.size w5.heap.size XT YT ZT 34 37) (by kernel_rfl) ⟨XFa t0.out (Below.refl _ _).drew,XFa t1.out (Below.refl _ _).drew,XFa t2.out (Below.refl _ _).drew⟩ (fun hS=>?_);replace r0:=hid (XFa r0.out (Below.refl _ _).drew);replace r1:=hid (XFa r1.out (Below.refl _ _).drew);replace r2:=hid (XFa r2.out (Below.refl _ _).drew)
    replace bq:=hid (X05 bq.out (Below.refl _ _).drew);replace rt:=hid (X08 rt.out (Below.refl _ _).drew);replace rj:=hid (X01 rj.out (Below.refl _ _).drew);replace rp:=hid (X01 rp.out (Below.refl _ _).drew);replace hM:=hid (XFn hM.out (Below.refl _ _).drew);refine' tk 0 rfl hS ?_;try simp only[putA]
    refine' tkM 1 rfl (fun _ h=>h.1) 0 vm.out af.out hS ?_;try simp only[putA]
    refine' tkO 2 rfl (fun W=>XFt aB.out W) hS ?_;try simp only[putA]
    refine' tkL 3 rfl (fun _ h=>h.2.1) hS ?_;try simp only[putA]
    refine' tkL 4 rfl (fun _ h=>h.2.2) hS ?_;try simp only[putA]
    refine rdy 5 rfl fun K hK=>?_;go_simp;go_at_call 41;refine(Xw2 (Jx J w) _ o2 _ E rp.out).mono ?_;rintro e w7 ⟨vc,rfl,c,q⟩;obtain⟨Z7,rfl,g1,g2,_⟩:=rch_x c;have z7:=hid (vx_C g1 g2);clear rp;have rp:=hid c;go_wp2_with fail;refine hK.out _ _ (XFF hS q) (fun hSn=>?_);clear hK K hS;have hS:=hSn;clear hSn;try simp only[putA]
    replace r0:=hid (XFa r0.out q);replace r1:=hid (XFa r1.out q);replace r2:=hid (XFa r2.out q);replace bq:=hid (X05 bq.out q);replace rj:=hid (X01 rj.out q);replace hM:=hid (XFn hM.out q);clear q c g1 g2;clear rt;have rt:=hid (rs_mk (vp:= .slice none 0 0) (l:= []) true true hM.out (XFD _ _));refine' tkS 6 rfl r0.out vn.out (fun H p0=>?_);have g:=XFE hS p0 (by omega) (by omega) (by omega);refine⟨g,?_⟩;replace hS:=g;clear g;try simp only[putA]
    have u:=XFf (J:=Jx J w) p0 (.inr ⟨by omega,by omega⟩);have s0:=hid (XFg p0 vn.out);replace r1:=hid (XFh r1.out p0 (by omega));replace r2:=hid (XFh r2.out p0 (by omega));replace rt:=hid (X3f rt.out u);replace rj:=hid (X0L rj.out u);replace rp:=hid (X0L rp.out u);replace bq:=hid (p0.below _ _ (by omega) bq.out);clear u p0;refine' tkS 7 rfl r1.out vj.out (fun I p1=>?_);have g:=XFE hS p1 (by omega) (by omega) (by omega);refine⟨g,?_⟩;replace hS:=g;clear g;try simp only[putA]
    have u:=XFf (J:=Jx J w) p1 (.inr ⟨by omega,by omega⟩);have s1:=hid (XFg p1 vj.out);replace r2:=hid (XFh r2.out p1 (by omega));replace s0:=hid (XFh s0.out p1 (by omega));replace rt:=hid (X3f rt.out u);replace rj:=hid (X0L rj.out u);replace rp:=hid (X0L rp.out u);replace bq:=hid (p1.below _ _ (by omega) bq.out);clear u p1;refine' tkS 8 rfl r2.out z7.out (fun L p2=>?_);have g:=XFE hS p2 (by omega) (by omega) (by omega);refine⟨g,?_⟩;replace hS:=g;clear g;try simp only[putA]
    have u:=XFf (J:=Jx J w) p2 (.inr ⟨by omega,by omega⟩);have s2:=hid (XFg p2 z7.out);replace s0:=hid (XFh s0.out p2 (by omega));replace s1:=hid (XFh s1.out p2 (by omega));replace rt:=hid (X3f rt.out u);replace rj:=hid (X0L rj.out u);replace rp:=hid (X0L rp.out u);replace bq:=hid (p2.below _ _ (by omega) bq.out);clear u p2;refine' tk 9 rfl hS ?_;try simp only[putA]
    refine wpAnyH_done (by kernel_rfl) ?_ _;clear hS;go_wp2_with fail;exact bodyPost_ret (res4 (v:= .bool true) s0.out s1.out s2.out) rfl ⟨_,_,_,rfl,X3s rt.out (fun _ _ h=>Or.inl h),X0Q rj.out (fun _ _ h=>Or.inl h),X0Q rp.out (fun _ _ h=>Or.inl h),bq.out⟩
   |
    false=>
    replace a:=hid ((if_neg (by rw[P];simp)).symm.trans a.out);rw[P] at a9;obtain⟨Li,D⟩:=i2;dsimp only at d0 d1 a;rcases Li with _ | ⟨b,r⟩
    ·dsimp only at a;cases D with
     |
      true=>
      have d:q0=(⟨(Mch.endM t.m).1,(Mch.endM t.m).2,true,false⟩,⟨[],true⟩,o2,true):=by rw[←a.out];rfl
      subst d;go_upto_region 13 with(fail);go_wp2_with (refine ldM t0.out 0 vm.out af.out ?_);refine(hE _ t.m _ a8.m (XFr hM.out)).mono ?_;intro e w7 U;obtain⟨va,vb,rfl,C,B,q⟩:=XFq U (hJ.out _ (by omega)) hM.out;obtain⟨M7,rfl,a1,a2,_⟩:=rmo_x C;obtain⟨pb,cb,rfl⟩:=X0b B.1;have m9:=hid a1;have v7:=hid (vx_M a1 a2);have vn:=hid (vx_S (X:=M7++ #[.slice pb (Mch.endM t.m).2.length cb, .bool true, .bool false]) (by simp [a1]) (by rw[Array.all_append,a2];kernel_rfl));replace C:=hid C;replace B:=hid B;have aO:=q.size;replace r0:=hid (XFa r0.out q);replace r1:=hid (XFa r1.out q)
      replace r2:=hid (XFa r2.out q);replace bq:=hid (X05 bq.out q);replace t0:=hid (XFa t0.out q);replace t1:=hid (XFa t1.out q);replace t2:=hid (XFa t2.out q);replace rj:=hid (X01 rj.out q);replace rp:=hid (X01 rp.out q);clear q a1 a2 U hM;go_upto_region 14 with(refine stX (XFb vz_M w7) v7.out fun w8 p=>?_);have q:=p.below _ _ (Nat.le_refl _) (X04 w7 _);have tm:=hid (XFg p v7.out);clear p;have aE:=q.size;replace r0:=hid (XFa r0.out q);replace r1:=hid (XFa r1.out q);replace r2:=hid (XFa r2.out q);replace bq:=hid (X05 bq.out q);replace t0:=hid (XFa t0.out q);replace t1:=hid (XFa t1.out q)
      replace t2:=hid (XFa t2.out q);replace rj:=hid (X01 rj.out q);replace rp:=hid (X01 rp.out q);replace C:=hid (XFn C.out q);replace B:=hid (XFG B.out q);clear q;clear rt;have rt:=hid (rs_mk true false C.out B.out);refine wp_region_held_drew (S:=fun W=>Bx Tryz.prog W w7.heap.size M7 32∧S3 Tryz.prog w1.heap.size w3.heap.size w5.heap.size XT YT ZT 34 37 W) (by kernel_rfl) ⟨XFa tm.out (Below.refl _ _).drew,XFa t0.out (Below.refl _ _).drew,XFa t1.out (Below.refl _ _).drew,XFa t2.out (Below.refl _ _).drew⟩ (fun hS=>?_);replace r0:=hid (XFa r0.out (Below.refl _ _).drew)
      replace r1:=hid (XFa r1.out (Below.refl _ _).drew);replace r2:=hid (XFa r2.out (Below.refl _ _).drew);replace bq:=hid (X05 bq.out (Below.refl _ _).drew);replace rt:=hid (X08 rt.out (Below.refl _ _).drew);replace rj:=hid (X01 rj.out (Below.refl _ _).drew);replace rp:=hid (X01 rp.out (Below.refl _ _).drew);refine' tkL 0 rfl (fun _ h=>h.1) hS ?_;try simp only[putA]
      refine' tk 1 rfl hS ?_;try simp only[putA]
      refine' tkO 2 rfl (fun W=>XFt m9.out W) hS ?_;try simp only[putA]
      refine' tkL 3 rfl (fun _ h=>h.2.2.1) hS ?_;try simp only[putA]
      refine' tkL 4 rfl (fun _ h=>h.2.2.2) hS ?_;try simp only[putA]
      refine' tkS 5 rfl r0.out vn.out (fun H p0=>?_);have g:=And.intro (XFh hS.1 p0 (by omega)) <| XFE hS.2 p0 (by omega) (by omega) (by omega);refine⟨g,?_⟩;replace hS:=g;clear g;try simp only[putA]
      have u:=XFf (J:=Jx J w) p0 (.inr ⟨by omega,by omega⟩);have s0:=hid (XFg p0 vn.out);replace r1:=hid (XFh r1.out p0 (by omega));replace r2:=hid (XFh r2.out p0 (by omega));replace rt:=hid (X3f rt.out u);replace rj:=hid (X0L rj.out u);replace rp:=hid (X0L rp.out u);replace bq:=hid (p0.below _ _ (by omega) bq.out);clear u p0;refine' tkS 6 rfl r1.out vj.out (fun I p1=>?_);have g:=And.intro (XFh hS.1 p1 (by omega)) <| XFE hS.2 p1 (by omega) (by omega) (by omega);refine⟨g,?_⟩;replace hS:=g;clear g;try simp only[putA]
      have u:=XFf (J:=Jx J w) p1 (.inr ⟨by omega,by omega⟩);have s1:=hid (XFg p1 vj.out);replace r2:=hid (XFh r2.out p1 (by omega));replace s0:=hid (XFh s0.out p1 (by omega));replace rt:=hid (X3f rt.out u);replace rj:=hid (X0L rj.out u);replace rp:=hid (X0L rp.out u);replace bq:=hid (p1.below _ _ (by omega) bq.out);clear u p1;refine' tkS 7 rfl r2.out vp.out (fun L p2=>?_);have g:=And.intro (XFh hS.1 p2 (by omega)) <| XFE hS.2 p2 (by omega) (by omega) (by omega);refine⟨g,?_⟩;replace hS:=g;clear g;try simp only[putA]
      have u:=XFf (J:=Jx J w) p2 (.inr ⟨by omega,by omega⟩);have s2:=hid (XFg p2 vp.out);replace s0:=hid (XFh s0.out p2 (by omega));replace s1:=hid (XFh s1.out p2 (by omega));replace rt:=hid (X3f rt.out u);replace rj:=hid (X0L rj.out u);replace rp:=hid (X0L rp.out u);replace bq:=hid (p2.below _ _ (by omega) bq.out);clear u p2;refine' tk 8 rfl hS ?_;try simp only[putA]
      refine wpAnyH_done (by kernel_rfl) ?_ _;clear hS;go_wp2_with fail;exact bodyPost_ret (res4 (v:= .bool true) s0.out s1.out s2.out) rfl ⟨_,_,_,rfl,X3s rt.out (fun _ _ h=>Or.inl h),X0Q rj.out (fun _ _ h=>Or.inl h),X0Q rp.out (fun _ _ h=>Or.inl h),bq.out⟩
     |
      false=>
      have d:q0=(t,⟨[],false⟩,o2,false):=by rw[←a.out];rfl
      subst d;go_upto_region 15 with(fail);refine wp_region_held_drew (S:=S3 Tryz.prog w1.heap.size w3.heap.size w5.heap.size XT YT ZT 34 37) (by kernel_rfl) ⟨XFa t0.out (Below.refl _ _).drew,XFa t1.out (Below.refl _ _).drew,XFa t2.out (Below.refl _ _).drew⟩ (fun hS=>?_);replace r0:=hid (XFa r0.out (Below.refl _ _).drew);replace r1:=hid (XFa r1.out (Below.refl _ _).drew);replace r2:=hid (XFa r2.out (Below.refl _ _).drew);replace bq:=hid (X05 bq.out (Below.refl _ _).drew);replace rt:=hid (X08 rt.out (Below.refl _ _).drew);replace rj:=hid (X01 rj.out (Below.refl _ _).drew)
      replace rp:=hid (X01 rp.out (Below.refl _ _).drew);refine' tkL 0 rfl (fun _ h=>h.1) hS ?_;try simp only[putA]
      refine' tkL 1 rfl (fun _ h=>h.2.1) hS ?_;try simp only[putA]
      refine' tkL 2 rfl (fun _ h=>h.2.2) hS ?_;try simp only[putA]
      refine' tkS 3 rfl r0.out vt.out (fun H p0=>?_);have g:=XFE hS p0 (by omega) (by omega) (by omega);refine⟨g,?_⟩;replace hS:=g;clear g;try simp only[putA]
      have u:=XFf (J:=Jx J w) p0 (.inr ⟨by omega,by omega⟩);have s0:=hid (XFg p0 vt.out);replace r1:=hid (XFh r1.out p0 (by omega));replace r2:=hid (XFh r2.out p0 (by omega));replace rt:=hid (X3f rt.out u);replace rj:=hid (X0L rj.out u);replace rp:=hid (X0L rp.out u);replace bq:=hid (p0.below _ _ (by omega) bq.out);clear u p0;refine' tkS 4 rfl r1.out vj.out (fun I p1=>?_);have g:=XFE hS p1 (by omega) (by omega) (by omega);refine⟨g,?_⟩;replace hS:=g;clear g;try simp only[putA]
      have u:=XFf (J:=Jx J w) p1 (.inr ⟨by omega,by omega⟩);have s1:=hid (XFg p1 vj.out);replace r2:=hid (XFh r2.out p1 (by omega));replace s0:=hid (XFh s0.out p1 (by omega));replace rt:=hid (X3f rt.out u);replace rj:=hid (X0L rj.out u);replace rp:=hid (X0L rp.out u);replace bq:=hid (p1.below _ _ (by omega) bq.out);clear u p1;refine' tkS 5 rfl r2.out vp.out (fun L p2=>?_);have g:=XFE hS p2 (by omega) (by omega) (by omega);refine⟨g,?_⟩;replace hS:=g;clear g;try simp only[putA]
      have u:=XFf (J:=Jx J w) p2 (.inr ⟨by omega,by omega⟩);have s2:=hid (XFg p2 vp.out);replace s0:=hid (XFh s0.out p2 (by omega));replace s1:=hid (XFh s1.out p2 (by omega));replace rt:=hid (X3f rt.out u);replace rj:=hid (X0L rj.out u);replace rp:=hid (X0L rp.out u);replace bq:=hid (p2.below _ _ (by omega) bq.out);clear u p2;refine' tk 6 rfl hS ?_;try simp only[putA]
      refine wpAnyH_done (by kernel_rfl) ?_ _;clear hS;go_wp2_with fail;exact bodyPost_ret (res4 (v:= .bool false) s0.out s1.out s2.out) rfl ⟨_,_,_,rfl,X3s rt.out (fun _ _ h=>Or.inl h),X0Q rj.out (fun _ _ h=>Or.inl h),X0Q rp.out (fun _ _ h=>Or.inl h),bq.out⟩
    ·dsimp only at a;have d:q0=(⟨(Mch.X0N t.m b).1,(Mch.X0N t.m b).2,false,false⟩,⟨r,D⟩,o2,true):=a.out.symm;have x:=fun V VI VO W h1 h2 h3 h4=>hF (Jx J w) V t VI ⟨b::r,D⟩ VO o2 W h1 a8 G.out.m y.out a0 E a4 h2 h3 h4;have A:Stg.takeC ⟨b::r,D⟩=(⟨r,D⟩,b,true):=by unfold Stg.takeC;rw[Stg.X0y y.out]
     rw[A] at x;dsimp only at x;rw[←d] at x;unfold XeD at x;obtain⟨qs,qi,qo,qk⟩:=q0;dsimp only at x;replace x:=hid x;have aF:(0:Int)<((b::r).length:Int):=by simp only[List.length_cons];omega
     clear a d A;go_upto_region 11 with(fail);go_wp2_with (first | refine ldX t0.out ?_ | refine ldX t1.out ?_ | refine ldX t2.out ?_);refine(x.out _ _ _ _ (hJ.out _ (by omega)) rt.out rj.out rp.out).mono ?_;rintro e w7 ⟨vs,aA,aC,rfl,n,f,c,q⟩;dsimp only at n f c ⊢;obtain⟨X7,rfl,a1,a2⟩:=rs_x n;obtain⟨Y7,rfl,b1,b2,_⟩:=rch_x f;obtain⟨Z7,rfl,g1,g2,_⟩:=rch_x c;have v7:=hid (vx_S a1 a2);have u7:=hid (vx_C b1 b2);have z7:=hid (vx_C g1 g2);clear rt rj rp;have rt:=hid n;have rj:=hid f;have rp:=hid c;replace r0:=hid (XFa r0.out q);replace r1:=hid (XFa r1.out q);replace r2:=hid (XFa r2.out q)
     replace bq:=hid (X05 bq.out q);clear q n f c a1 a2 b1 b2 g1 g2
     go_wp2_with (first | (refine stX r0.out v7.out fun H p0=>?_;have u:=XFf (J:=Jx J w) p0 (.inr ⟨by omega,by omega⟩);have s0:=hid (XFg p0 v7.out);replace r1:=hid (XFh r1.out p0 (by omega));replace r2:=hid (XFh r2.out p0 (by omega));replace rt:=hid (X3f rt.out u);replace rj:=hid (X0L rj.out u);replace rp:=hid (X0L rp.out u);replace bq:=hid (p0.below _ _ (by omega) bq.out);clear u p0) | (refine stX r1.out u7.out fun I p1=>?_;have u:=XFf (J:=Jx J w) p1 (.inr ⟨by omega,by omega⟩);have s1:=hid (XFg p1 u7.out);replace r2:=hid (XFh r2.out p1 (by omega));replace s0:=hid (XFh s0.out p1 (by omega));replace rt:=hid (X3f rt.out u);replace rj:=hid (X0L rj.out u);replace rp:=hid (X0L rp.out u);replace bq:=hid (p1.below _ _ (by omega) bq.out);clear u p1) | (refine stX r2.out z7.out fun L p2=>?_;have u:=XFf (J:=Jx J w) p2 (.inr ⟨by omega,by omega⟩);have s2:=hid (XFg p2 z7.out);replace s0:=hid (XFh s0.out p2 (by omega));replace s1:=hid (XFh s1.out p2 (by omega));replace rt:=hid (X3f rt.out u);replace rj:=hid (X0L rj.out u);replace rp:=hid (X0L rp.out u);replace bq:=hid (p2.below _ _ (by omega) bq.out);clear u p2))
     exact bodyPost_ret (res4 (v:= .bool qk) s0.out s1.out s2.out) rfl ⟨_,_,_,rfl,X3s rt.out (fun _ _ h=>Or.inl h),X0Q rj.out (fun _ _ h=>Or.inl h),X0Q rp.out (fun _ _ h=>Or.inl h),bq.out⟩
  ·replace a:=hid ((if_pos hpe).symm.trans a.out);have az:(0:Int)<(t.pend.length:Int):=by have:=List.length_pos_iff.2 hpe;omega
   have z:=fun V VI VO W h1 h2 h3 h4=>hP (Jx J w) V t VI i2 VO o2 W h1 hpe a8 a0 E h2 h3 h4;rw[a.out] at z;unfold XeD at z;obtain⟨qs,qi,qo,qk⟩:=q0;dsimp only at z;clear a;replace z:=hid z;go_upto_region 7 with(fail);go_wp2_with (first | refine ldX t0.out ?_ | refine ldX t1.out ?_ | refine ldX t2.out ?_);refine(z.out _ _ _ _ (hJ.out _ (by omega)) rt.out rj.out rp.out).mono ?_;rintro e w7 ⟨vs,aA,aC,rfl,n,f,c,q⟩;dsimp only at n f c ⊢;obtain⟨X7,rfl,a1,a2⟩:=rs_x n;obtain⟨Y7,rfl,b1,b2,_⟩:=rch_x f;obtain⟨Z7,rfl,g1,g2,_⟩:=rch_x c;have v7:=hid (vx_S a1 a2);have u7:=hid (vx_C b1 b2)
   have z7:=hid (vx_C g1 g2);clear rt rj rp;have rt:=hid n;have rj:=hid f;have rp:=hid c;replace r0:=hid (XFa r0.out q);replace r1:=hid (XFa r1.out q);replace r2:=hid (XFa r2.out q);replace bq:=hid (X05 bq.out q);clear q n f c a1 a2 b1 b2 g1 g2
   go_wp2_with (first | (refine stX r0.out v7.out fun H p0=>?_;have u:=XFf (J:=Jx J w) p0 (.inr ⟨by omega,by omega⟩);have s0:=hid (XFg p0 v7.out);replace r1:=hid (XFh r1.out p0 (by omega));replace r2:=hid (XFh r2.out p0 (by omega));replace rt:=hid (X3f rt.out u);replace rj:=hid (X0L rj.out u);replace rp:=hid (X0L rp.out u);replace bq:=hid (p0.below _ _ (by omega) bq.out);clear u p0) | (refine stX r1.out u7.out fun I p1=>?_;have u:=XFf (J:=Jx J w) p1 (.inr ⟨by omega,by omega⟩);have s1:=hid (XFg p1 u7.out);replace r2:=hid (XFh r2.out p1 (by omega));replace s0:=hid (XFh s0.out p1 (by omega));replace rt:=hid (X3f rt.out u);replace rj:=hid (X0L rj.out u);replace rp:=hid (X0L rp.out u);replace bq:=hid (p1.below _ _ (by omega) bq.out);clear u p1) | (refine stX r2.out z7.out fun L p2=>?_;have u:=XFf (J:=Jx J w) p2 (.inr ⟨by omega,by omega⟩);have s2:=hid (XFg p2 z7.out);replace s0:=hid (XFh s0.out p2 (by omega));replace s1:=hid (XFh s1.out p2 (by omega));replace rt:=hid (X3f rt.out u);replace rj:=hid (X0L rj.out u);replace rp:=hid (X0L rp.out u);replace bq:=hid (p2.below _ _ (by omega) bq.out);clear u p2))
   exact bodyPost_ret (res4 (v:= .bool qk) s0.out s1.out s2.out) rfl ⟨_,_,_,rfl,X3s rt.out (fun _ _ h=>Or.inl h),X0Q rj.out (fun _ _ h=>Or.inl h),X0Q rp.out (fun _ _ h=>Or.inl h),bq.out⟩
theorem XFN(J:Nat→Prop)(k:Int)(w:World):Calls Tryz.prog 23 #[.int .i64 k] w fun e w'=>∃v',e= .returned v'∧RS J w' v' (Stg.newS k)∧Below w.heap.size w w':=by
 have hn:=fun W=>X58 k W;have hm:Mch.newM k=Mch.bare (if 0≤k∧k≤4 then k else 0):=rfl;unfold Stg.newS;rw[hm];obtain⟨n,hk⟩: ∃n,(if 0≤k∧k≤4 then k else 0)=n:=⟨_,rfl⟩;rw[hk] at hn ⊢;replace hn:=hid hn;have r0:=hid (XFb vz_S w);have bq:=hid (X04 w (.cells zeroS TR17));clear hm hk;unfold zeroS TR17 at *
 obtain⟨W,hW⟩: ∃W,w.alloc (.cells #[.int .i64 0, .string ⟨#[]⟩, .slice none 0 0, .slice none 0 0, .bool false, .int .i64 0, .bool false, .bool false, .slice none 0 0, .slice none 0 0, .bool false, .bool false] 34)=W:=⟨_,rfl⟩;rw[hW] at r0 bq;replace hW:=hid hW;go_enter Tryz.func23,Tryz.ntmps23;go_upto_region 1 with(fail);rw[hW.out];go_wp2_with fail;refine(hn.out W).mono ?_;rintro e w1 ⟨rfl,q⟩;replace r0:=hid (XFa r0.out q);replace bq:=hid (X05 bq.out q);clear q;have vy:=hid (vx_S (X:=bare9 n++ #[.slice none 0 0, .bool false, .bool false]) rfl (by kernel_rfl));unfold bare9 at vy
 go_wp2_with (refine stX (Y:= #[.int .i64 n, .string ⟨#[]⟩,nilV,nilV, .bool false, .int .i64 0, .bool false, .bool false,nilV, .slice none 0 0, .bool false, .bool false]) r0.out vy.out fun w2 p=>?_);exact bodyPost_ret (res1 (XFg p vy.out)) rfl ⟨_,rfl,rs_mk (M:=bare9 n) (m:=Mch.bare n) (l:= []) false false ⟨nilV,nilV,nilV,rfl,XFD _ _,XFD _ _,XFD _ _⟩ (XFD _ _),p.below _ _ (Nat.le_refl _) bq.out⟩
def XFM:Prop:=∀ (J:Nat→Prop) (v:Value) (s:St) (w:World),s.Small→RS J w v s→Calls Tryz.prog 18 #[v] w fun e w'=>e= .returned (.bool (Stg.saneS s))∧Below w.heap.size w w'
theorem ras17(hS:XFM):XFx:=by
 intro J v s w hold hs hv;have a:=fun V W h=>hS J V s W hs h;have hN:=fun W=>XFN (Jx J w) s.m.kind W;unfold Stg.asS;obtain⟨b,hb⟩: ∃b,Stg.saneS s=b:=⟨_,rfl⟩;rw[hb] at a ⊢;clear hb hs hS;obtain⟨X,rfl,c,d⟩:=rs_x hv;have hX:=hid (vx_S c d);obtain⟨h0,_⟩:=XFp hv;have x0:=XFa (XFb hX.out w) (X04 _ (.cells zeroS TR17));have r0:=XFb vz_S (w.alloc (.cells X TR17));have bq:=(X04 w (.cells X TR17)).alloc (by simp) (.cells zeroS TR17);rw[World.size_alloc] at r0;obtain⟨W,hW⟩: ∃W,(w.alloc (.cells X TR17)).alloc (.cells zeroS TR17)=W:=⟨_,rfl⟩;rw[hW] at x0 r0 bq;have rs:=hid (X08 hv bq)
 have hj:=fun W' (h:Below w.heap.size w W')=>X08 (J:=J) hv h;unfold zeroS TR17 at *
 replace hW:=hid hW;replace x0:=hid x0;replace r0:=hid r0;replace bq:=hid bq;replace a:=hid a;replace hN:=hid hN;replace h0:=hid h0;replace hj:=hid hj;clear hv c d;go_enter Tryz.func38,Tryz.ntmps38;go_upto_region 1 with(fail);rw[hW.out];go_wp2_with (refine ldX x0.out ?_);refine(a.out _ W rs.out).mono ?_;rintro e w1 ⟨rfl,q⟩;replace x0:=hid (XFa x0.out q);replace r0:=hid (XFa r0.out q);replace bq:=hid (X05 bq.out q);have c0:=XFe x0.out 0 _ h0.out;clear q rs;rcases b with _ | _
 ·go_wp2_with fail;refine(hN.out w1).mono ?_;rintro e w2 ⟨v2,rfl,rn,q⟩;obtain⟨Y,rfl,a1,a2⟩:=rs_x rn;have vy:=hid (vx_S a1 a2);replace r0:=hid (XFa r0.out q);replace bq:=hid (X05 bq.out q);replace rn:=hid rn;clear c0 q a1 a2;go_wp2_with (refine stX r0.out vy.out fun w3 p=>?_);have f:=bq.out.size;refine bodyPost_ret (res1 (XFg p vy.out)) rfl ⟨_,rfl,?_,p.below _ _ (Nat.le_succ _) bq.out⟩;exact X3s (X3f rn.out (XFf (J:=Jx J w) p (.inr ⟨by omega,by omega⟩))) (fun _ _ h=>Or.inl h)
 ·clear c0;go_wp2_with (first | refine ldX x0.out ?_ | refine stX r0.out hX.out fun w3 p=>?_);have hB:=p.below _ _ (Nat.le_succ _) bq.out;exact bodyPost_ret (res1 (XFg p hX.out)) rfl ⟨_,rfl,hj.out _ hB,hB⟩
theorem sameN(v:Value)(l:List Int)(b:Bool)(w:World)(hl:l.length≤100000)(h:RI w v l)(e:decide (l= [])=b):Calls Tryz.prog 28 #[v, .slice none 0 0] w fun e w'=>e= .returned (.bool b)∧Below w.heap.size w w':=by
 subst e;refine(X36 v _ l [] w hl h (X9J w)).mono ?_;rintro e w' ⟨rfl,n,rfl⟩;exact⟨rfl,X0U w n⟩
theorem XFS(s:Clu.CS)(w:World):(binOp .eql 28 (.agg #[.bool s.on, .int .i64 s.kind, .bool s.pict, .bool s.odd]) (.agg #[.bool false, .int .i64 0, .bool false, .bool false])).run Tryz.prog w= .ok (.bool (decide (s=Clu.zero))) w:=by
 obtain⟨on,k,p,o⟩:=s;have hz:((⟨on,k,p,o⟩:Clu.CS)=Clu.zero)↔(on=false∧k=0∧p=false∧o=false):=by
  unfold Clu.zero;simp
 have hd:decide ((⟨on,k,p,o⟩:Clu.CS)=Clu.zero)=(!on && (decide (k=0) && (!p && !o))):=by
  rw[show decide ((⟨on,k,p,o⟩:Clu.CS)=Clu.zero)=decide (on=false∧k=0∧p=false∧o=false) from decide_eq_decide.2 hz];by_cases h:k=0 <;> cases on <;> cases p <;> cases o <;> simp [h]
 rw[hd];clear hd hz;go_simp;by_cases h:k=0 <;> cases on <;> cases p <;> cases o <;> simp [h]
def bareB(m:MS):Bool:=decide (m.d= []) && decide (m.n= []) && decide (m.g= []) && decide (m.s=Clu.zero) && decide (m.c= [])
theorem XFR(va:Value)(m:MS)(w:World)(hs:Mch.Small m)(ha:RM w va m):Calls Tryz.prog 49 #[va, .agg (bare9 m.kind)] w fun e w'=>e= .returned (.bool (bareB m))∧Below w.heap.size w w':=by
 obtain⟨an,ag,ac,rfl,j,i,f⟩:=ha;have l1:=hs.n;have l2:=hs.g;have l3:=hs.c;obtain⟨p1,q1,rfl⟩:=X0b j;obtain⟨p2,q2,rfl⟩:=X0b i;obtain⟨p3,q3,rfl⟩:=X0b f;unfold bareB;have a:((⟨m.d.toArray⟩:ByteArray).toList= [])↔decide (m.d= [])=true:=by
  rw[ByteArray.toList_eq,decide_eq_true_iff]
 have u:=XFS m.s;unfold mchV strV bare9;obtain⟨bd,o⟩: ∃b,decide (m.d= [])=b:=⟨_,rfl⟩;obtain⟨bn,r⟩: ∃b,decide (m.n= [])=b:=⟨_,rfl⟩;obtain⟨bg,p⟩: ∃b,decide (m.g= [])=b:=⟨_,rfl⟩;obtain⟨bs,t⟩: ∃b,decide (m.s=Clu.zero)=b:=⟨_,rfl⟩;obtain⟨bc,l⟩: ∃b,decide (m.c= [])=b:=⟨_,rfl⟩;rw[o] at a ⊢;rw[t] at u ⊢;rw[r,p,l];obtain⟨S,hS⟩: ∃S:ByteArray,(⟨m.d.toArray⟩:ByteArray)=S:=⟨_,rfl⟩;rw[hS] at a ⊢;clear hS o t hs
 have kF: ∀W W':World,(RI W (.slice p1 m.n.length q1) m.n∧RI W (.slice p2 m.g.length q2) m.g∧RI W (.slice p3 m.c.length q3) m.c∧Blk W w.heap.size #[.int .i64 m.kind, .string S, .slice p1 m.n.length q1, .slice p2 m.g.length q2, .bool m.s.on, .int .i64 m.s.kind, .bool m.s.pict, .bool m.s.odd, .slice p3 m.c.length q3] 32∧Blk W (w.heap.size+1) #[.int .i64 m.kind, .string ⟨#[]⟩,nilV,nilV, .bool false, .int .i64 0, .bool false, .bool false,nilV] 32∧Below w.heap.size w W)→Below W.heap.size W W'→_:=fun W W' h q=>(⟨X03 h.1 q,X03 h.2.1 q,X03 h.2.2.1 q,X02 h.2.2.2.1 q,X02 h.2.2.2.2.1 q,X05 h.2.2.2.2.2 q⟩:RI W' (.slice p1 m.n.length q1) m.n∧RI W' (.slice p2 m.g.length q2) m.g∧RI W' (.slice p3 m.c.length q3) m.c∧Blk W' w.heap.size #[.int .i64 m.kind, .string S, .slice p1 m.n.length q1, .slice p2 m.g.length q2, .bool m.s.on, .int .i64 m.s.kind, .bool m.s.pict, .bool m.s.odd, .slice p3 m.c.length q3] 32∧Blk W' (w.heap.size+1) #[.int .i64 m.kind, .string ⟨#[]⟩,nilV,nilV, .bool false, .int .i64 0, .bool false, .bool false,nilV] 32∧Below w.heap.size w W')
 have b0:=X04 w (.cells #[.int .i64 m.kind, .string S, .slice p1 m.n.length q1, .slice p2 m.g.length q2, .bool m.s.on, .int .i64 m.s.kind, .bool m.s.pict, .bool m.s.odd, .slice p3 m.c.length q3] 32);have y0:=X0g w #[.int .i64 m.kind, .string S, .slice p1 m.n.length q1, .slice p2 m.g.length q2, .bool m.s.on, .int .i64 m.s.kind, .bool m.s.pict, .bool m.s.odd, .slice p3 m.c.length q3] 32
 obtain⟨U,hU⟩: ∃U,w.alloc (.cells #[.int .i64 m.kind, .string S, .slice p1 m.n.length q1, .slice p2 m.g.length q2, .bool m.s.on, .int .i64 m.s.kind, .bool m.s.pict, .bool m.s.odd, .slice p3 m.c.length q3] 32)=U:=⟨_,rfl⟩;have k:U.heap.size=w.heap.size+1:=by rw[←hU];simp
 rw[hU] at b0 y0;have b1:=X04 U (.cells #[.int .i64 m.kind, .string ⟨#[]⟩,nilV,nilV, .bool false, .int .i64 0, .bool false, .bool false,nilV] 32);have y1:=X0g U #[.int .i64 m.kind, .string ⟨#[]⟩,nilV,nilV, .bool false, .int .i64 0, .bool false, .bool false,nilV] 32;rw[k] at y1;have hF:=hid (show _∧_∧_∧_∧_∧_ from⟨X03 (X03 j b0) b1,X03 (X03 i b0) b1,X03 (X03 f b0) b1,X02 y0 b1,y1,X05 b0 b1⟩);rw[←hU] at hF;replace kF:=hid kF
 obtain⟨W,hW⟩: ∃W,(w.alloc (.cells #[.int .i64 m.kind, .string S, .slice p1 m.n.length q1, .slice p2 m.g.length q2, .bool m.s.on, .int .i64 m.s.kind, .bool m.s.pict, .bool m.s.odd, .slice p3 m.c.length q3] 32)).alloc (.cells #[.int .i64 m.kind, .string ⟨#[]⟩,nilV,nilV, .bool false, .int .i64 0, .bool false, .bool false,nilV] 32)=W:=⟨_,rfl⟩;rw[hW] at hF;replace hW:=hid hW;clear b0 b1 y0 y1 hU k U j i f;unfold nilV at *
 have c0:=X00 hF.out.2.2.2.1 0 _ rfl;have c1:=X00 hF.out.2.2.2.1 1 _ rfl;have c2:=X00 hF.out.2.2.2.1 2 _ rfl;have c3:=X00 hF.out.2.2.2.1 3 _ rfl;have c4:=X00 hF.out.2.2.2.1 4 _ rfl;have c5:=X00 hF.out.2.2.2.1 5 _ rfl;have c6:=X00 hF.out.2.2.2.1 6 _ rfl;have c7:=X00 hF.out.2.2.2.1 7 _ rfl;have c8:=X00 hF.out.2.2.2.1 8 _ rfl;have d0:=X00 hF.out.2.2.2.2.1 0 _ rfl;have d1:=X00 hF.out.2.2.2.2.1 1 _ rfl;have d2:=X00 hF.out.2.2.2.2.1 2 _ rfl;have d3:=X00 hF.out.2.2.2.2.1 3 _ rfl;have d4:=X00 hF.out.2.2.2.2.1 4 _ rfl;have d5:=X00 hF.out.2.2.2.2.1 5 _ rfl;have d6:=X00 hF.out.2.2.2.2.1 6 _ rfl
 have d7:=X00 hF.out.2.2.2.2.1 7 _ rfl;have d8:=X00 hF.out.2.2.2.2.1 8 _ rfl;go_enter Tryz.func49,Tryz.ntmps49;go_upto_region 1 with(fail);rw[hW.out];rcases bd with _ | _
 ·have v: ¬S.toList= []:=fun h=>by have:=a.1 h;cases this
  clear a;go_wp2_with fail;go_ret;exact⟨rfl,hF.out.2.2.2.2.2⟩
 ·have v:S.toList= []:=a.2 rfl;clear a;go_wp2_with fail;refine(sameN _ _ _ W (by omega) hF.out.1 r).mono ?_;rintro e w2 ⟨rfl,q⟩;clear c0 d0 c1 d1 c2 d2 c3 d3 c4 d4 c5 d5 c6 d6 c7 d7 c8 d8;replace hF:=hid (kF.out _ _ hF.out q);clear q;have c0:=X00 hF.out.2.2.2.1 0 _ rfl;have c1:=X00 hF.out.2.2.2.1 1 _ rfl;have c2:=X00 hF.out.2.2.2.1 2 _ rfl;have c3:=X00 hF.out.2.2.2.1 3 _ rfl;have c4:=X00 hF.out.2.2.2.1 4 _ rfl;have c5:=X00 hF.out.2.2.2.1 5 _ rfl;have c6:=X00 hF.out.2.2.2.1 6 _ rfl;have c7:=X00 hF.out.2.2.2.1 7 _ rfl;have c8:=X00 hF.out.2.2.2.1 8 _ rfl;have d0:=X00 hF.out.2.2.2.2.1 0 _ rfl
  have d1:=X00 hF.out.2.2.2.2.1 1 _ rfl;have d2:=X00 hF.out.2.2.2.2.1 2 _ rfl;have d3:=X00 hF.out.2.2.2.2.1 3 _ rfl;have d4:=X00 hF.out.2.2.2.2.1 4 _ rfl;have d5:=X00 hF.out.2.2.2.2.1 5 _ rfl;have d6:=X00 hF.out.2.2.2.2.1 6 _ rfl;have d7:=X00 hF.out.2.2.2.2.1 7 _ rfl;have d8:=X00 hF.out.2.2.2.2.1 8 _ rfl;rcases bn with _ | _
  ·skip;go_wp2_with fail;go_ret;exact⟨rfl,hF.out.2.2.2.2.2⟩
  ·skip;go_wp2_with fail;refine(sameN _ _ _ w2 (by omega) hF.out.2.1 p).mono ?_;rintro e w3 ⟨rfl,q⟩;clear c0 d0 c1 d1 c2 d2 c3 d3 c4 d4 c5 d5 c6 d6 c7 d7 c8 d8;replace hF:=hid (kF.out _ _ hF.out q);clear q;have c0:=X00 hF.out.2.2.2.1 0 _ rfl;have c1:=X00 hF.out.2.2.2.1 1 _ rfl;have c2:=X00 hF.out.2.2.2.1 2 _ rfl;have c3:=X00 hF.out.2.2.2.1 3 _ rfl;have c4:=X00 hF.out.2.2.2.1 4 _ rfl;have c5:=X00 hF.out.2.2.2.1 5 _ rfl;have c6:=X00 hF.out.2.2.2.1 6 _ rfl;have c7:=X00 hF.out.2.2.2.1 7 _ rfl;have c8:=X00 hF.out.2.2.2.1 8 _ rfl;have d0:=X00 hF.out.2.2.2.2.1 0 _ rfl
   have d1:=X00 hF.out.2.2.2.2.1 1 _ rfl;have d2:=X00 hF.out.2.2.2.2.1 2 _ rfl;have d3:=X00 hF.out.2.2.2.2.1 3 _ rfl;have d4:=X00 hF.out.2.2.2.2.1 4 _ rfl;have d5:=X00 hF.out.2.2.2.2.1 5 _ rfl;have d6:=X00 hF.out.2.2.2.2.1 6 _ rfl;have d7:=X00 hF.out.2.2.2.2.1 7 _ rfl;have d8:=X00 hF.out.2.2.2.2.1 8 _ rfl;rcases bg with _ | _
   ·skip;go_wp2_with fail;go_ret;exact⟨rfl,hF.out.2.2.2.2.2⟩
   ·rcases bs with _ | _
    ·skip;go_wp2_with fail;go_ret;exact⟨rfl,hF.out.2.2.2.2.2⟩
    ·skip;go_wp2_with fail;refine(sameN _ _ _ w3 (by omega) hF.out.2.2.1 l).mono ?_;rintro e w4 ⟨rfl,q⟩;clear c0 d0 c1 d1 c2 d2 c3 d3 c4 d4 c5 d5 c6 d6 c7 d7 c8 d8;replace hF:=hid (kF.out _ _ hF.out q);clear q;have c0:=X00 hF.out.2.2.2.1 0 _ rfl;have c1:=X00 hF.out.2.2.2.1 1 _ rfl;have c2:=X00 hF.out.2.2.2.1 2 _ rfl;have c3:=X00 hF.out.2.2.2.1 3 _ rfl;have c4:=X00 hF.out.2.2.2.1 4 _ rfl;have c5:=X00 hF.out.2.2.2.1 5 _ rfl;have c6:=X00 hF.out.2.2.2.1 6 _ rfl;have c7:=X00 hF.out.2.2.2.1 7 _ rfl;have c8:=X00 hF.out.2.2.2.1 8 _ rfl;have d0:=X00 hF.out.2.2.2.2.1 0 _ rfl
     have d1:=X00 hF.out.2.2.2.2.1 1 _ rfl;have d2:=X00 hF.out.2.2.2.2.1 2 _ rfl;have d3:=X00 hF.out.2.2.2.2.1 3 _ rfl;have d4:=X00 hF.out.2.2.2.2.1 4 _ rfl;have d5:=X00 hF.out.2.2.2.2.1 5 _ rfl;have d6:=X00 hF.out.2.2.2.2.1 6 _ rfl;have d7:=X00 hF.out.2.2.2.2.1 7 _ rfl;have d8:=X00 hF.out.2.2.2.2.1 8 _ rfl;go_wp2_with fail;go_ret;exact⟨by simp,hF.out.2.2.2.2.2⟩
theorem XFT(m:MS):bareB m=decide (m.n= []∧m.d= []∧m.g= []∧m.s=Clu.zero∧m.c= []):=by
 unfold bareB;rw[Bool.eq_iff_iff];simp only[Bool.and_eq_true,decide_eq_true_eq];constructor
 ·rintro ⟨⟨⟨⟨a,b⟩,c⟩,d⟩,e⟩;exact⟨b,a,c,d,e⟩
 ·rintro ⟨a,b,c,d,e⟩;exact⟨⟨⟨⟨b,a⟩,c⟩,d⟩,e⟩
def XFU:Prop:=∀ (v:Value) (m:MS) (w:World),Mch.Small m→RM w v m→Calls Tryz.prog 48 #[v] w fun e w'=>e= .returned (.bool (Mch.saneM m))∧Below w.heap.size w w'
theorem XFV(hS:XFU):XFM:=by
 intro J v s w hs hv;have C:=XFT s.m;have j:=fun V W h=>hS V s.m W hs.m h;have d:Mch.saneM s.m=true→(if 0≤s.m.kind∧s.m.kind≤4 then s.m.kind else 0)=s.m.kind:=fun h=>if_pos ((Mch.X1b s.m).1 h).kind;have g:=fun W=>X58 s.m.kind W;have i:=fun V W h=>XFR V s.m W hs.m h;unfold Stg.saneS;rw[←C];clear C hS;obtain⟨B,hB⟩: ∃B,bareB s.m=B:=⟨_,rfl⟩;rw[hB] at i ⊢;obtain⟨A,hA⟩: ∃A,Mch.saneM s.m=A:=⟨_,rfl⟩;rw[hA] at j d ⊢;clear hA hB;obtain⟨X,rfl,t,z⟩:=rs_x hv;obtain⟨h0,⟨pp,cp,h9,_⟩,k,l,hM⟩:=XFp hv;have G:=hs.p;obtain⟨en,D⟩: ∃b,s.ended=b:=⟨_,rfl⟩;obtain⟨sh,E⟩: ∃b,s.shut=b:=⟨_,rfl⟩
 obtain⟨P,hP⟩: ∃P,s.pend=P:=⟨_,rfl⟩;rw[D] at k ⊢;rw[E] at l ⊢;rw[hP] at h9 G ⊢;clear D E hP;obtain⟨M,f⟩: ∃M,X.extract 0 9=M:=⟨_,rfl⟩;have o:M.size=9:=by rw[←f,Array.size_extract,t];rfl
 rw[f] at hM;obtain⟨M',n,_,u,_⟩:=rmo_x hM;injection n with n;subst n;have vm:=hid (vx_M o u);have y:=hid (show M=X.extract 0 (0+M.size) by rw[o];exact f.symm);have x0:=hid (XFb (vx_S t z) w);have bq:=hid (X04 w (.cells X 34));have rm:=hid (X0d (XFr hM) bq.out);unfold TR17 at *
 obtain⟨W,hW⟩: ∃W,w.alloc (.cells X 34)=W:=⟨_,rfl⟩;rw[hW] at x0 bq rm;replace hW:=hid hW;have kc:=hid (fun(W:World) (h:Bx Tryz.prog W w.heap.size X 34)=>(⟨XFe h 0 _ h0,XFe h 9 _ h9,XFe h 10 _ k,XFe h 11 _ l⟩:W.cell? ⟨w.heap.size,0,none⟩=some (.int .i64 s.m.kind)∧W.cell? ⟨w.heap.size,9,none⟩=some (.slice pp P.length cp)∧W.cell? ⟨w.heap.size,10,none⟩=some (.bool en)∧W.cell? ⟨w.heap.size,11,none⟩=some (.bool sh)));replace j:=hid j;replace d:=hid d;replace g:=hid g;replace i:=hid i;clear t z hv f o u hM h0 h9 k l hs
 obtain⟨R,hR⟩: ∃R,(A && decide (P.length≤256) && (!en || B) && (!sh || (en && P.isEmpty)))=R:=⟨_,rfl⟩;rw[hR];replace hR:=hid hR;go_enter Tryz.func18,Tryz.ntmps18;go_upto_region 1 with(fail);rw[hW.out];obtain⟨c0,c9,a,c⟩:=kc.out W x0.out;go_wp2_with (refine ldM x0.out 0 vm.out y.out ?_);refine(j.out _ W rm.out).mono ?_;rintro e w1 ⟨rfl,q⟩;replace x0:=hid (XFa x0.out q);replace bq:=hid (X05 bq.out q);replace rm:=hid (X0d rm.out q);clear c0 c9 a c q;obtain⟨c0,c9,a,c⟩:=kc.out w1 x0.out;rcases A with _ | _
 ·go_wp2_with fail;go_ret;exact⟨by rw[←hR.out];simp,bq.out⟩
 ·rcases Nat.lt_or_ge 256 P.length with h | h
  ·have h1:(256:Int)<(P.length:Int):=by omega
   have h2:decide (P.length≤256)=false:=decide_eq_false (by omega);rw[h2] at hR;go_wp2_with fail;go_ret;exact⟨by rw[←hR.out];simp,bq.out⟩
  ·have h1: ¬(256:Int)<(P.length:Int):=by omega
   have h2:decide (P.length≤256)=true:=decide_eq_true h;rw[h2] at hR;rw[d.out rfl] at g;clear h2 h d;rcases en with _ | _
   ·go_upto_region 3 with(fail);refine wp_region_held_drew (S:=fun W=>Bx Tryz.prog W w.heap.size X 34∧W.cell? ⟨w.heap.size,0,none⟩=some (.int .i64 s.m.kind)∧W.cell? ⟨w.heap.size,10,none⟩=some _) (by kernel_rfl) ⟨XFa x0.out (Below.refl _ _).drew,c0,a⟩ (fun hS=>?_);clear c0 c9 a c;replace bq:=hid (X05 bq.out (Below.refl _ _).drew);replace rm:=hid (X0d rm.out (Below.refl _ _).drew);replace x0:=hid (XFa x0.out (Below.refl _ _).drew);obtain⟨c0,c9,a,c⟩:=kc.out _ x0.out;refine' tk 0 rfl hS ?_;try simp only[putA]
    refine' tk 1 rfl hS ?_;try simp only[putA]
    refine' tk 2 rfl hS ?_;try simp only[putA]
    refine' tkN 3 rfl hS ?_;try simp only[putA]
    refine' tkN 4 rfl hS ?_;try simp only[putA]
    refine' tkN 5 rfl hS ?_;try simp only[putA]
    refine' tkN 6 rfl hS ?_;try simp only[putA]
    refine' tkN 7 rfl hS ?_;try simp only[putA]
    refine' tkN 8 rfl hS ?_;try simp only[putA]
    refine' tkN 9 rfl hS ?_;try simp only[putA]
    refine' tkN 10 rfl hS ?_;try simp only[putA]
    refine' tk 11 rfl hS ?_;try simp only[putA]
    refine wpAnyH_done (by kernel_rfl) ?_ _;clear hS;go_upto_region 5 with(fail);rcases sh with _ | _
    ·skip;go_wp2_with fail;go_ret;exact⟨by rw[←hR.out];simp,bq.out⟩
    ·skip;go_wp2_with fail;go_ret;exact⟨by rw[←hR.out];simp,bq.out⟩
   ·go_upto_region 3 with(fail);refine wp_region_held_drew (S:=fun W=>Bx Tryz.prog W w.heap.size X 34∧W.cell? ⟨w.heap.size,0,none⟩=some (.int .i64 s.m.kind)∧W.cell? ⟨w.heap.size,10,none⟩=some _) (by kernel_rfl) ⟨XFa x0.out (Below.refl _ _).drew,c0,a⟩ (fun hS=>?_);clear c0 c9 a c;replace bq:=hid (X05 bq.out (Below.refl _ _).drew);replace rm:=hid (X0d rm.out (Below.refl _ _).drew);replace x0:=hid (XFa x0.out (Below.refl _ _).drew);obtain⟨c0,c9,a,c⟩:=kc.out _ x0.out;refine' tk 0 rfl hS ?_;try simp only[putA]
    refine' tk 1 rfl hS ?_;try simp only[putA]
    refine' tk 2 rfl hS ?_;try simp only[putA]
    refine' tk 3 rfl hS ?_;try simp only[putA]
    refine' tkM 4 rfl (fun _ h=>h.1) 0 vm.out y.out hS ?_;try simp only[putA]
    refine' tk 5 rfl hS ?_;try simp only[putA]
    refine' tk 6 rfl hS ?_;try simp only[putA]
    refine' tk 7 rfl hS ?_;try simp only[putA]
    refine rdy 8 rfl fun K hK=>?_;go_simp;go_at_call 50;refine(g.out _).mono ?_;rintro e w3 ⟨rfl,q⟩;go_wp2_with fail;clear c0 c9 a c;replace bq:=hid (X05 bq.out q);replace rm:=hid (X0d rm.out q);replace x0:=hid (XFa x0.out q);clear q;obtain⟨c0,c9,a,c⟩:=kc.out _ x0.out;refine hK.out _ _ ⟨x0.out,c0,a⟩ (fun hSn=>?_);clear hK K hS;have hS:=hSn;clear hSn;try simp only[putA]
    refine rdy 9 rfl fun K hK=>?_;go_simp;go_at_call 49;refine(i.out _ _ rm.out).mono ?_;rintro e w4 ⟨rfl,q⟩;go_wp2_with fail;clear c0 c9 a c;replace bq:=hid (X05 bq.out q);replace rm:=hid (X0d rm.out q);replace x0:=hid (XFa x0.out q);clear q;obtain⟨c0,c9,a,c⟩:=kc.out _ x0.out;refine hK.out _ _ ⟨x0.out,c0,a⟩ (fun hSn=>?_);clear hK K hS;have hS:=hSn;clear hSn;try simp only[putA]
    refine' tk 10 rfl hS ?_;try simp only[putA]
    refine' tk 11 rfl hS ?_;try simp only[putA]
    refine wpAnyH_done (by kernel_rfl) ?_ _;clear hS;rcases B with _ | _
    ·go_wp2_with fail;go_ret;exact⟨by rw[←hR.out];simp,bq.out⟩
    ·go_upto_region 5 with(fail);rcases sh with _ | _
     ·skip;go_wp2_with fail;go_ret;exact⟨by rw[←hR.out];simp,bq.out⟩
     ·rcases P with _ | ⟨x,r⟩
      ·skip;go_wp2_with fail;go_ret;exact⟨by rw[←hR.out];simp,bq.out⟩
      ·obtain⟨q,hq⟩: ∃q,(x::r).length=q:=⟨_,rfl⟩;have F: ¬(q:Int)=0:=by rw[←hq];simp only[List.length_cons];omega
       have H:((q:Int) == 0)=false:=beq_eq_false_iff_ne.2 F;rw[hq] at c9;clear hq kc h1;go_wp2_with fail;go_ret;exact⟨by rw[←hR.out];simp,bq.out⟩
theorem XFL:XFu:=by
 intro J v s vi i vo o w hold ad hs ah ac hv hi ho;have d: ∀ (K:Nat→Prop) (VZ VB:Value) (W:World) (NK:Nat),Old K W→RCh K W VZ o→RIo K W VB (s.pend.take NK)→Calls Tryz.prog 67 #[VZ,VB] W (X9i K (Stg.putC o (s.pend.take NK)) W):=fun K VZ VB W NK h1 h2 h3=>XBH K VZ o VB (s.pend.take NK) W h1 ac (by have:=hs.p;rw[List.length_take];omega) h2 h3;obtain⟨⟨o2,ok⟩,hq⟩: ∃q,Stg.putC o (s.pend.take 8)=q:=⟨_,rfl⟩;rw[hq];dsimp only
 obtain⟨q0,x⟩: ∃q,(if ok=true then ((⟨s.m,s.pend.drop 8,s.ended,false⟩:St),i,o2,true) else (s,i,o,false))=q:=⟨_,rfl⟩;rw[x];replace hq:=hid hq;replace x:=hid x;obtain⟨X,rfl,C,G⟩:=rs_x hv;obtain⟨Y,rfl,H,I,_⟩:=rch_x hi;obtain⟨Z,rfl,L,N,_⟩:=rch_x ho;obtain⟨h0,⟨pp,cp,h9,f⟩,l,aa,hM⟩:=XFp hv;have a0:0<s.pend.length:=List.length_pos_iff.2 ad;obtain⟨pb,po,rfl,aj,_⟩:=ri_at f.1 a0;have V:=(Xfw f.1).2.1;obtain⟨W,hW,x0,x1,x2,r0,r1,r2,bq⟩:=six (w:=w) (vx_S C G) (vx_C H I) (vx_C L N) vz_S vz_C vz_C;have rt:=hid (X08 (XFC (K:=Jx J w) hv XFB) bq);have rj:=hid (X01 (XFA (K:=Jx J w) hi XFB) bq)
 have rp:=hid (X01 (XFA (K:=Jx J w) ho XFB) bq);have r: ∀ (K:Nat→Prop),(∀j,K j→Jx J w j∨W.heap.size≤j)→RIo K W (.slice (some ⟨pb,po,none⟩) s.pend.length cp) s.pend:=fun K hK=>XFz (J:=Jx J w) (XFG (XFz f XFB) bq) hK;have D: ∀ (K:Nat→Prop),(∀j,K j→Jx J w j∨W.heap.size≤j)→RCh K W (.agg Z) o:=fun K hK=>XFA (J:=Jx J w) rp.out hK;have hJ: ∀W',W.heap.size≤W'.heap.size→Old (Jx J w) W':=fun W' h j hj=>by
  have:=X1h r2.blk;rcases hj with hj | hj
  ·have:=hold j hj;omega
  ·omega
 have hz:=X1h r2.blk;unfold zeroS zeroC TR17 TR16 at *
 clear hv hi ho hold;have vx:=hid (vx_S C G);have vj:=hid (vx_C H I);have vz:=hid (vx_C L N);replace hW:=hid hW;replace x0:=hid x0;replace x1:=hid x1;replace x2:=hid x2;replace r0:=hid r0;replace r1:=hid r1;replace r2:=hid r2;replace bq:=hid bq;replace hJ:=hid hJ;replace d:=hid d;replace r:=hid r;replace D:=hid D;replace h9:=hid h9;replace l:=hid l;obtain⟨M,A⟩: ∃M,X.extract 0 9=M:=⟨_,rfl⟩;have z:M.size=9:=by rw[←A,Array.size_extract,C];rfl
 rw[A] at hM;obtain⟨M',F,_,U,_⟩:=rmo_x hM;injection F with F;subst F;have a6:=hid z;have vm:=hid (vx_M z U);have ab:=hid (show M=X.extract 0 (0+M.size) by rw[z];exact A.symm);have n:RMo (Jx J w) W (.agg M) s.m:=by
  obtain⟨a,b,c,e,g1,g2,g3⟩:=hM;exact XFn ⟨a,b,c,e,XFz g1 XFB,XFz g2 XFB,XFz g3 XFB⟩ bq.out
 replace n:=hid n;clear C G H I L N h0 aa hM f A z U;go_enter Tryz.func40,Tryz.ntmps40;go_upto_region 1 with(fail);rw[hW.out];have c9:=XFe x0.out 9 _ h9.out;go_upto_if 17 with(fail)
 go_cut [10] (fun ae wx=>∃NK:Nat,ae= .int .i64 NK∧NK≤s.pend.length∧s.pend.take 8=s.pend.take NK∧s.pend.drop 8=s.pend.drop NK∧wx=W)
 case first=>
  rcases Nat.lt_or_ge 8 s.pend.length with h8 | h8
  ·have n8:(8:Int)<(s.pend.length:Int):=by omega
   go_wp2_with fail;go_meet;exact⟨8,rfl,by omega,rfl,rfl,rfl⟩
  ·have n8: ¬(8:Int)<(s.pend.length:Int):=by omega
   go_wp2_with fail;go_meet;exact⟨_,rfl,Nat.le_refl _,by rw[List.take_of_length_le h8,List.take_length],by rw[List.drop_of_length_le h8,List.drop_length],rfl⟩
 case rest=>
  obtain⟨NK,rfl,B,T,O,a5⟩:=hcut;obtain rfl:W=wc:=a5.symm;have t: ∀ (K:Nat→Prop) (VZ VB:Value) (W:World),Old K W→RCh K W VZ o→RIo K W VB (s.pend.take NK)→Calls Tryz.prog 67 #[VZ,VB] W (X9i K (o2,ok) W):=fun K VZ VB W g1 g2 g3=>by
   have:=d.out K VZ VB W NK g1 g2 g3;rw[←T,hq.out] at this;exact this
  replace d:=hid t;replace T:=hid T;replace O:=hid O;clear t a5;go_upto_region 4 with(fail)
  go_cut [11,12] from 18 to 26 (fun af ag wx=>∃ (ko:Nat) (VO:Array Value),af= .pointer (some ⟨ko,0,none⟩)∧ag= .bool ok∧Bx Tryz.prog wx ko VO 37∧RCh (Jx J w) wx (.agg VO) o2∧W.heap.size≤ko∧Below W.heap.size W wx)
  case first=>
   refine wp_region_held_drew (S:=fun W=>Bx Tryz.prog W (w.heap.size+1+1) Z 37∧Bx Tryz.prog W w.heap.size X 34∧W.cell? ⟨w.heap.size,9,none⟩=some (.slice (some ⟨pb,po,none⟩) s.pend.length cp)) (by kernel_rfl) ⟨XFa x2.out (Below.refl _ _).drew,XFa x0.out (Below.refl _ _).drew,c9⟩ (fun hS=>?_);refine' tkL 0 rfl (fun _ h=>h.1) hS ?_;try simp only[putA]
   refine' tk 1 rfl hS ?_;try simp only[putA]
   refine' tk 2 rfl hS ?_;try simp only[putA]
   refine' tk 3 rfl hS ?_;try simp only[putA]
   refine' tkO 4 rfl (fun W=>XFJ B V W) hS ?_;try simp only[putA]
   refine wpAnyH_ready (rs:= [5,9]) (by kernel_rfl) (by simp) (AllReadyH.cons rfl (fun K hK=>?_) (AllReadyH.cons rfl (fun K hK=>?_) AllReadyH.nil))
   ·skip;go_simp;go_at_call 67;refine(d.out (Jx J w) _ _ _ (hJ.out W.drew (Nat.le_refl _)) (X01 (D.out _ (fun _ h=> .inl h)) (Below.refl _ _).drew) (XFG (XFK (r.out _ (fun _ h=> .inl h)) NK B) (Below.refl _ _).drew)).mono ?_;rintro e w1 ⟨v1,rfl,rz,q1⟩;dsimp only at rz ⊢;obtain⟨VO,rfl,a1,a2,_⟩:=rch_x rz;have vo:=hid (vx_C a1 a2);replace rz:=hid rz;clear a1 a2;go_wp2_with fail;refine hK.out _ _ ⟨XFa hS.1 q1,XFa hS.2.1 q1,XFe (XFa hS.2.1 q1) 9 _ h9.out⟩ (fun hSn=>?_);clear hK K hS;have hS:=hSn;clear hSn;try simp only[putA]
    refine' tk 6 rfl hS ?_;try simp only[putA]
    refine' tk 7 rfl hS ?_;try simp only[putA]
    refine' tk 8 rfl hS ?_;try simp only[putA]
    have k:=hS;refine rdy 9 rfl fun K hK=>?_;go_simp;refine hK.out _ _ ⟨XFa hS.1 (X04 w1 _),XFa hS.2.1 (X04 w1 _),XFe (XFa hS.2.1 (X04 w1 _)) 9 _ h9.out⟩ (fun hSn=>?_);clear hK K hS;have hS:=hSn;clear hSn;try simp only[putA]
    refine' tkS 10 rfl (XFb vz_C w1) vo.out (fun w2 p=>⟨⟨XFa k.1 (p.below _ _ (Nat.le_refl _) (X04 w1 _)),XFa k.2.1 (p.below _ _ (Nat.le_refl _) (X04 w1 _)),XFe (XFa k.2.1 (p.below _ _ (Nat.le_refl _) (X04 w1 _))) 9 _ h9.out⟩,?_⟩);have q2:=p.below _ _ (Nat.le_refl _) (X04 w1 _);replace hS:=(show (fun W=>Bx Tryz.prog W (w.heap.size+1+1) Z 37∧Bx Tryz.prog W w.heap.size X 34∧W.cell? ⟨w.heap.size,9,none⟩=some (.slice (some ⟨pb,po,none⟩) s.pend.length cp)) w2 from⟨XFa k.1 q2,XFa k.2.1 q2,XFe (XFa k.2.1 q2) 9 _ h9.out⟩);try simp only[putA]
    refine' tk 11 rfl hS ?_;try simp only[putA]
    refine wpAnyH_done (by kernel_rfl) ?_ _;clear hS k;go_wp2_with fail;go_meet;exact⟨w1.heap.size,VO,rfl,rfl,XFg p vo.out,X01 rz.out q2,q1.size,X05 (X05 (Below.refl _ _).drew q1) q2⟩
   ·go_simp;refine hK.out _ _ ⟨XFa hS.1 (X04 _ _),XFa hS.2.1 (X04 _ _),XFe (XFa hS.2.1 (X04 _ _)) 9 _ h9.out⟩ (fun hSn=>?_);clear hK K hS;have hS:=hSn;clear hSn;try simp only[putA]
    refine rdy 5 rfl fun K hK=>?_;go_simp;go_at_call 67;refine(d.out (fun j=>Jx J w j∨j=W.heap.size) _ _ _ (fun j hj=>hj.elim (fun h=>Nat.lt_of_lt_of_le (hJ.out W (Nat.le_refl _) j h) (by simp)) (fun e=>by rw[e];simp)) (X01 (X01 (D.out _ (fun _ h=>h.imp id (fun e=>Nat.le_of_eq e.symm))) (Below.refl _ _).drew) (X04 _ _)) (XFG (XFG (XFK (r.out _ (fun _ h=>h.imp id (fun e=>Nat.le_of_eq e.symm))) NK B) (Below.refl _ _).drew) (X04 _ _))).mono ?_;rintro e w1 ⟨v1,rfl,rz,q1⟩;dsimp only at rz ⊢;obtain⟨VO,rfl,a1,a2,_⟩:=rch_x rz;have vo:=hid (vx_C a1 a2);replace rz:=hid rz;clear a1 a2;go_wp2_with fail
    refine hK.out _ _ ⟨XFa hS.1 q1,XFa hS.2.1 q1,XFe (XFa hS.2.1 q1) 9 _ h9.out⟩ (fun hSn=>?_);clear hK K hS;have hS:=hSn;clear hSn;try simp only[putA]
    refine' tk 6 rfl hS ?_;try simp only[putA]
    refine' tk 7 rfl hS ?_;try simp only[putA]
    refine' tk 8 rfl hS ?_;try simp only[putA]
    have qa:=X05 (show Below W.heap.size W _ from(Below.refl _ _).drew.alloc (Nat.le_refl _) _) q1;refine' tkS 10 rfl (XFa (XFb vz_C (W.drew)) q1) vo.out (fun w2 p=>⟨⟨XFh hS.1 p (by show _≠W.heap.size;omega),XFh hS.2.1 p (by show _≠W.heap.size;omega),XFe (XFh hS.2.1 p (by show _≠W.heap.size;omega)) 9 _ h9.out⟩,?_⟩);have q2:=p.below _ _ (Nat.le_refl _) qa
    replace hS:=(show (fun W=>Bx Tryz.prog W (w.heap.size+1+1) Z 37∧Bx Tryz.prog W w.heap.size X 34∧W.cell? ⟨w.heap.size,9,none⟩=some (.slice (some ⟨pb,po,none⟩) s.pend.length cp)) w2 from⟨XFh hS.1 p (by show _≠W.heap.size;omega),XFh hS.2.1 p (by show _≠W.heap.size;omega),XFe (XFh hS.2.1 p (by show _≠W.heap.size;omega)) 9 _ h9.out⟩);try simp only[putA]
    refine' tk 11 rfl hS ?_;try simp only[putA]
    refine wpAnyH_done (by kernel_rfl) ?_ _;clear hS;go_wp2_with fail;go_meet;exact⟨W.heap.size,VO,rfl,rfl,XFg p vo.out,X0Q (X0L rz.out (XFf (J:=fun j=>Jx J w j∨j=W.heap.size) p (.inr rfl))) (fun _ _ h=> .inl h),Nat.le_refl _,q2⟩
  case rest=>
   obtain⟨ko,VO,rfl,rfl,E,rz,ai,qW⟩:=hcut;replace x0:=hid (XFa x0.out qW);replace x1:=hid (XFa x1.out qW);replace x2:=hid (XFa x2.out qW);replace r0:=hid (XFa r0.out qW);replace r1:=hid (XFa r1.out qW);replace r2:=hid (XFa r2.out qW);replace rt:=hid (X08 rt.out qW);replace rj:=hid (X01 rj.out qW);replace rp:=hid (X01 rp.out qW);replace bq:=hid (X05 bq.out qW);replace n:=hid (XFn n.out qW);have a3:=XFG (r.out (Jx J w) (fun _ h=> .inl h)) qW;obtain⟨p3,c3,R,y⟩:=XFI a3 B a0;have vo:=hid E.v;replace R:=hid R;replace y:=hid y;replace E:=hid E;replace rz:=hid rz;have ak:=qW.size;clear a3 qW c9
   rcases ok with _ | _
   ·have P:q0=(s,i,o,false):=by rw[←x.out];rfl
    subst P;go_upto_region 6 with(fail);refine wp_region_held_drew (S:=S3 Tryz.prog w.heap.size (w.heap.size+1) (w.heap.size+1+1) X Y Z 34 37) (by kernel_rfl) ⟨XFa x0.out (Below.refl _ _).drew,XFa x1.out (Below.refl _ _).drew,XFa x2.out (Below.refl _ _).drew⟩ (fun hS=>?_);replace r0:=hid (XFa r0.out (Below.refl _ _).drew);replace r1:=hid (XFa r1.out (Below.refl _ _).drew);replace r2:=hid (XFa r2.out (Below.refl _ _).drew);replace bq:=hid (X05 bq.out (Below.refl _ _).drew);replace rt:=hid (X08 rt.out (Below.refl _ _).drew);replace rj:=hid (X01 rj.out (Below.refl _ _).drew)
    replace rp:=hid (X01 rp.out (Below.refl _ _).drew);refine' tkL 0 rfl (fun _ h=>h.1) hS ?_;try simp only[putA]
    refine' tkL 1 rfl (fun _ h=>h.2.1) hS ?_;try simp only[putA]
    refine' tkL 2 rfl (fun _ h=>h.2.2) hS ?_;try simp only[putA]
    refine' tkS 3 rfl r0.out vx.out (fun a7 p0=>?_);have g:=XFE hS p0 (by omega) (by omega) (by omega);refine⟨g,?_⟩;replace hS:=g;clear g;try simp only[putA]
    have u:=XFf (J:=Jx J w) p0 (.inr ⟨by omega,by omega⟩);have s0:=hid (XFg p0 vx.out);replace r1:=hid (XFh r1.out p0 (by omega));replace r2:=hid (XFh r2.out p0 (by omega));replace rt:=hid (X3f rt.out u);replace rj:=hid (X0L rj.out u);replace rp:=hid (X0L rp.out u);replace bq:=hid (p0.below _ _ (by omega) bq.out);clear u p0;refine' tkS 4 rfl r1.out vj.out (fun a8 p1=>?_);have g:=XFE hS p1 (by omega) (by omega) (by omega);refine⟨g,?_⟩;replace hS:=g;clear g;try simp only[putA]
    have u:=XFf (J:=Jx J w) p1 (.inr ⟨by omega,by omega⟩);have s1:=hid (XFg p1 vj.out);replace r2:=hid (XFh r2.out p1 (by omega));replace s0:=hid (XFh s0.out p1 (by omega));replace rt:=hid (X3f rt.out u);replace rj:=hid (X0L rj.out u);replace rp:=hid (X0L rp.out u);replace bq:=hid (p1.below _ _ (by omega) bq.out);clear u p1;refine' tkS 5 rfl r2.out vz.out (fun a9 p2=>?_);have g:=XFE hS p2 (by omega) (by omega) (by omega);refine⟨g,?_⟩;replace hS:=g;clear g;try simp only[putA]
    have u:=XFf (J:=Jx J w) p2 (.inr ⟨by omega,by omega⟩);have s2:=hid (XFg p2 vz.out);replace s0:=hid (XFh s0.out p2 (by omega));replace s1:=hid (XFh s1.out p2 (by omega));replace rt:=hid (X3f rt.out u);replace rj:=hid (X0L rj.out u);replace rp:=hid (X0L rp.out u);replace bq:=hid (p2.below _ _ (by omega) bq.out);clear u p2;refine' tk 6 rfl hS ?_;try simp only[putA]
    refine wpAnyH_done (by kernel_rfl) ?_ _;clear hS;go_wp2_with fail;exact bodyPost_ret (res4 (v:= .bool false) s0.out s1.out s2.out) rfl ⟨_,_,_,rfl,X3s rt.out (fun _ _ h=>Or.inl h),X0Q rj.out (fun _ _ h=>Or.inl h),X0Q rp.out (fun _ _ h=>Or.inl h),bq.out⟩
   ·have P:q0=(⟨s.m,s.pend.drop 8,s.ended,false⟩,i,o2,true):=by rw[←x.out];rfl
    subst P;have hd8:(s.pend.drop NK).length=(s.pend.drop NK).length:=rfl;have vn:=hid (vx_S (X:=M++ #[.slice p3 (s.pend.drop NK).length c3, .bool s.ended, .bool false]) (by simp [a6.out]) (by rw[Array.all_append,vm.out.one];kernel_rfl));clear rt rp;have a4:RIo (Jx J w) wc (.slice p3 (s.pend.drop NK).length c3) (s.pend.drop 8):=by rw[O.out];exact R.out
    have rt:=hid (rs_mk s.ended false n.out a4);clear a4;have rp:=rz;clear rz;go_upto_region 7 with(fail);refine wp_region_held_drew (S:=fun W=>S3 Tryz.prog w.heap.size (w.heap.size+1) ko X Y VO 34 37 W∧W.cell? ⟨w.heap.size,9,none⟩=some (.slice (some ⟨pb,po,none⟩) s.pend.length cp)∧W.cell? ⟨w.heap.size,10,none⟩=some (.bool s.ended)) (by kernel_rfl) ⟨⟨XFa x0.out (Below.refl _ _).drew,XFa x1.out (Below.refl _ _).drew,XFa E.out (Below.refl _ _).drew⟩,XFe (XFa x0.out (Below.refl _ _).drew) 9 _ h9.out,XFe (XFa x0.out (Below.refl _ _).drew) 10 _ l.out⟩ (fun hS=>?_)
    replace r0:=hid (XFa r0.out (Below.refl _ _).drew);replace r1:=hid (XFa r1.out (Below.refl _ _).drew);replace r2:=hid (XFa r2.out (Below.refl _ _).drew);replace bq:=hid (X05 bq.out (Below.refl _ _).drew);replace rt:=hid (X08 rt.out (Below.refl _ _).drew);replace rj:=hid (X01 rj.out (Below.refl _ _).drew);replace rp:=hid (X01 rp.out (Below.refl _ _).drew);refine' tk 0 rfl hS ?_;try simp only[putA]
    refine' tkM 1 rfl (fun _ h=>h.1.1) 0 vm.out ab.out hS ?_;try simp only[putA]
    refine' tk 2 rfl hS ?_;try simp only[putA]
    refine' tk 3 rfl hS ?_;try simp only[putA]
    refine' tk 4 rfl hS ?_;try simp only[putA]
    refine' tkO 5 rfl (fun W=>y.out _ _ _ _ _ _ _ _ W rfl rfl) hS ?_;try simp only[putA]
    refine' tk 6 rfl hS ?_;try simp only[putA]
    refine' tk 7 rfl hS ?_;try simp only[putA]
    refine' tkO 8 rfl (fun W=>XFt a6.out W) hS ?_;try simp only[putA]
    refine' tkL 9 rfl (fun _ h=>h.1.2.1) hS ?_;try simp only[putA]
    refine' tkL 10 rfl (fun _ h=>h.1.2.2) hS ?_;try simp only[putA]
    refine' tkS 11 rfl r0.out vn.out (fun a7 p0=>?_);have g0:=XFE hS.1 p0 (by omega) (by omega) (by omega);have g:(fun W=>S3 Tryz.prog w.heap.size (w.heap.size+1) ko X Y VO 34 37 W∧W.cell? ⟨w.heap.size,9,none⟩=some (.slice (some ⟨pb,po,none⟩) s.pend.length cp)∧W.cell? ⟨w.heap.size,10,none⟩=some (.bool s.ended)) a7:=⟨g0,XFe g0.1 9 _ h9.out,XFe g0.1 10 _ l.out⟩;clear g0;refine⟨g,?_⟩;replace hS:=g;clear g;try simp only[putA]
    have u:=XFf (J:=Jx J w) p0 (.inr ⟨by omega,by omega⟩);have s0:=hid (XFg p0 vn.out);replace r1:=hid (XFh r1.out p0 (by omega));replace r2:=hid (XFh r2.out p0 (by omega));replace rt:=hid (X3f rt.out u);replace rj:=hid (X0L rj.out u);replace rp:=hid (X0L rp.out u);replace bq:=hid (p0.below _ _ (by omega) bq.out);clear u p0;refine' tkS 12 rfl r1.out vj.out (fun a8 p1=>?_);have g0:=XFE hS.1 p1 (by omega) (by omega) (by omega)
    have g:(fun W=>S3 Tryz.prog w.heap.size (w.heap.size+1) ko X Y VO 34 37 W∧W.cell? ⟨w.heap.size,9,none⟩=some (.slice (some ⟨pb,po,none⟩) s.pend.length cp)∧W.cell? ⟨w.heap.size,10,none⟩=some (.bool s.ended)) a8:=⟨g0,XFe g0.1 9 _ h9.out,XFe g0.1 10 _ l.out⟩;clear g0;refine⟨g,?_⟩;replace hS:=g;clear g;try simp only[putA]
    have u:=XFf (J:=Jx J w) p1 (.inr ⟨by omega,by omega⟩);have s1:=hid (XFg p1 vj.out);replace r2:=hid (XFh r2.out p1 (by omega));replace s0:=hid (XFh s0.out p1 (by omega));replace rt:=hid (X3f rt.out u);replace rj:=hid (X0L rj.out u);replace rp:=hid (X0L rp.out u);replace bq:=hid (p1.below _ _ (by omega) bq.out);clear u p1;refine' tkS 13 rfl r2.out vo.out (fun a9 p2=>?_);have g0:=XFE hS.1 p2 (by omega) (by omega) (by omega)
    have g:(fun W=>S3 Tryz.prog w.heap.size (w.heap.size+1) ko X Y VO 34 37 W∧W.cell? ⟨w.heap.size,9,none⟩=some (.slice (some ⟨pb,po,none⟩) s.pend.length cp)∧W.cell? ⟨w.heap.size,10,none⟩=some (.bool s.ended)) a9:=⟨g0,XFe g0.1 9 _ h9.out,XFe g0.1 10 _ l.out⟩;clear g0;refine⟨g,?_⟩;replace hS:=g;clear g;try simp only[putA]
    have u:=XFf (J:=Jx J w) p2 (.inr ⟨by omega,by omega⟩);have s2:=hid (XFg p2 vo.out);replace s0:=hid (XFh s0.out p2 (by omega));replace s1:=hid (XFh s1.out p2 (by omega));replace rt:=hid (X3f rt.out u);replace rj:=hid (X0L rj.out u);replace rp:=hid (X0L rp.out u);replace bq:=hid (p2.below _ _ (by omega) bq.out);clear u p2;refine' tk 14 rfl hS ?_;try simp only[putA]
    refine wpAnyH_done (by kernel_rfl) ?_ _;clear hS;go_wp2_with fail;exact bodyPost_ret (res4 (v:= .bool true) s0.out s1.out s2.out) rfl ⟨_,_,_,rfl,X3s rt.out (fun _ _ h=>Or.inl h),X0Q rj.out (fun _ _ h=>Or.inl h),X0Q rp.out (fun _ _ h=>Or.inl h),bq.out⟩
def XGR:Prop:=∀ (v:Value) (m:MS) (x:Int) (w:World),Mch.Small m→RM w v m→I64 x→Calls Tryz.prog 69 #[v, .int .i64 x] w (FedM v (Mch.feedM m x) w)
theorem XGS{ev:Operand→Value}{x0 x1:Operand}{d:Option Tmp}{ty:TypeId}{po:String}{af:Array Edge}{gd:Option (Nat × Bool)}{M:Array Value}(hM:M.size=9){p:Option Addr}{n c:Nat}(w:World)(h0:ev x0= .agg M:=by rfl)(h1:ev x1= .slice p n c:=by rfl):
 (execOp ev ⟨d, .build TR17 #[(0,x0),(1,x1)],ty,po,af,gd⟩).run Tryz.prog w= .ok (.value (.agg (M++ #[.slice p n c, .bool false, .bool false]))) w:=by
 obtain⟨m0,m1,m2,m3,m4,m5,m6,m7,m8,rfl⟩:=nine hM;unfold execOp;simp only[List.map_toArray,List.map_cons,List.map_nil,h0,h1];kernel_rfl
theorem XGT(hF:XGR):XFv:=by
 intro J v s vi i vo o w hold hs aF aS aM be aX hv hi ho;obtain⟨aJ,a4⟩:=Stg.take_b aS aX;obtain⟨i0,bf,bi,bj,bk⟩:=info_parts X2p;have af:=fun J V W h2=>Xz9 J V i W aM h2;obtain⟨⟨i2,b,ok⟩,aW⟩: ∃q,Stg.takeC i=q:=⟨_,rfl⟩;rw[aW] at af aJ a4 ⊢;dsimp only at aJ a4 ⊢;have aT:=fun k=>(Stg.Xqx s.m aF (b.take k)).1;have ab:=fun k=>Stg.Xqy s.m aF (b.take k) (by rw[List.length_take];omega);have aa:=fun k x V W h hx=>hF V (Mch.X0N s.m (b.take k)).1 x W (Mch.small_sane (aT k)) h hx;obtain⟨G,hG⟩: ∃G,Mch.X0N s.m=G:=⟨_,rfl⟩;have ai:G []=(s.m,[]):=by rw[←hG];rfl
 have aj: ∀l x,G (l++ [x])=((Mch.feedM (G l).1 x).1,(G l).2++(Mch.feedM (G l).1 x).2):=by rw[←hG];exact Mch.Xb7 _
 rw[hG] at ab aa ⊢;obtain⟨Q0,a7⟩: ∃Q,G b=Q:=⟨_,rfl⟩;rw[a7];replace a7:=hid a7;replace af:=hid af;replace ab:=hid ab;replace aa:=hid aa;replace ai:=hid ai;replace aj:=hid aj;replace a4:=hid a4;clear hG aT aF aW aM be aX aS hs;obtain⟨X,rfl,a8,aw⟩:=rs_x hv;obtain⟨M,pp,cp,al,m9,m1,_,hM,E⟩:=XGj hv;obtain⟨Y,rfl,ax,ay,b8,b9⟩:=rch_x hi;obtain⟨Z,rfl,az,aA,ba,bc⟩:=rch_x ho;obtain⟨W,hW,x0,x1,x2,r0,r1,r2,bq⟩:=six (w:=w) (vx_S a8 aw) (vx_C ax ay) (vx_C az aA) vz_S vz_C vz_C;have rt:=X08 (XFC (K:=Jx J w) hv XFB) bq;have rj:=X01 (XFA (K:=Jx J w) hi XFB) bq;have rp:=X01 (XFA (K:=Jx J w) ho XFB) bq
 have vt:=vx_S a8 aw;have vj:=vx_C ax ay;have vp:=vx_C az aA;have hJ: ∀W',W.heap.size≤W'.heap.size→Old (Jx J w) W':=fun W' h j hj=>by
  have:=X1h r2.blk;rcases hj with hj | hj
  ·have:=hold j hj;omega
  ·omega
 replace hM:=XFn (XGm (K:=Jx J w) hM XFB) bq;replace E:=XFG (XFz (K:=Jx J w) E XFB) bq;obtain⟨h9,ag,ah,_,a5⟩:=XGg (M:=M) (a:= .slice pp s.pend.length cp) (b:= .bool s.ended) (c:= .bool s.shut) m9;rw[←al] at h9 ag ah a5;have vm:=vx_M m9 m1;have hz:=X1h r2.blk;unfold zeroS zeroC TR17 TR16 at *
 try unfold TR15 at *
 replace hW:=hid hW;replace x0:=hid x0;replace x1:=hid x1;replace x2:=hid x2;replace r0:=hid r0;replace r1:=hid r1;replace r2:=hid r2;replace bq:=hid bq;replace rt:=hid rt;replace rj:=hid rj;replace rp:=hid rp;replace vt:=hid vt;replace vj:=hid vj;replace vp:=hid vp;replace hJ:=hid hJ;replace a8:=hid a8;replace hM:=hid hM;replace E:=hid E;replace h9:=hid h9;replace ag:=hid ag;replace ah:=hid ah;replace a5:=hid a5;replace vm:=hid vm;replace al:=hid al;replace m9:=hid m9;replace m1:=hid m1;clear aw ax ay az aA hv hi ho hold b8 b9 ba bc;go_enter Tryz.func42,Tryz.ntmps42
 go_upto_region 1 with(fail);rw[hW.out];clear hW;go_wp2_with (refine ldX x1.out ?_);refine(af.out (Jx J w) _ W rj.out).mono ?_;rintro e w1 ⟨v1,vb,rfl,ap,rb,q⟩;dsimp only at ap rb ⊢;obtain⟨Y1,rfl,a1,a2,_⟩:=rch_x ap;obtain⟨pb,cb,rfl⟩:=X0b rb.1;have U:=vx_C a1 a2;unfold TR16 at U;replace U:=hid U;clear rj;have rj:=hid ap;replace rb:=hid rb;have bo:W.heap.size≤w1.heap.size:=q.size;replace r0:=hid (XFa r0.out q);replace r1:=hid (XFa r1.out q);replace r2:=hid (XFa r2.out q);replace bq:=hid (X05 bq.out q);replace x0:=hid (XFa x0.out q);replace x2:=hid (XFa x2.out q);replace rp:=hid (X01 rp.out q)
 replace hM:=hid (XFn hM.out q);replace rb:=hid (XFz (K:=fun j=>Jx J w j∨w1.heap.size≤j) rb.out (fun j h=>h));replace rj:=hid (XFA (K:=fun j=>Jx J w j∨w1.heap.size≤j) rj.out (fun j h=>h));replace rp:=hid (XFA (K:=fun j=>Jx J w j∨w1.heap.size≤j) rp.out (fun j h=>h));clear q a1 a2 ap af x1 rt;go_upto_region 2 with(refine stX (XFb vz_C w1) U.out fun w2 p=>?_);have q:=p.below _ _ (Nat.le_refl _) (X04 w1 _);have x1:=hid (XFg p U.out);have bp:w1.heap.size<w2.heap.size:=X1h x1.out.blk;replace r0:=hid (XFa r0.out q);replace r1:=hid (XFa r1.out q);replace r2:=hid (XFa r2.out q)
 replace bq:=hid (X05 bq.out q);replace x0:=hid (XFa x0.out q);replace x2:=hid (XFa x2.out q);replace rp:=hid (X01 rp.out q);replace rj:=hid (X01 rj.out q);replace hM:=hid (XFn hM.out q);replace rb:=hid (XFG rb.out q);replace hM:=hid (XGm (K:=fun j=>Jx J w j∨j=w2.heap.size) hM.out (fun j h=>h.imp id (fun e=>Nat.le_of_eq e.symm)));clear q p vj;go_upto_region 3 with(first | refine ldM x0.out 0 vm.out a5.out ?_ | refine stX (XFb vz_M w2) vm.out fun w3 p=>?_);have q:=p.below _ _ (Nat.le_refl _) (X04 w2 _);have xm:=hid (XFg p vm.out);have aZ:w2.heap.size<w3.heap.size:=X1h xm.out.blk
 replace r0:=hid (XFa r0.out q);replace r1:=hid (XFa r1.out q);replace r2:=hid (XFa r2.out q);replace bq:=hid (X05 bq.out q);replace x1:=hid (XFa x1.out q);replace x2:=hid (XFa x2.out q);replace rp:=hid (X01 rp.out q);replace rj:=hid (X01 rj.out q);replace hM:=hid (XFn hM.out q);replace rb:=hid (XFG rb.out q);clear q p x0;have aq:FdR Tryz.prog 32 (fun j=>Jx J w j∨j=w2.heap.size) w w2.heap.size w3.heap.size (fun Mk=>Mk) w3 (G []) (.slice none 0 0) w3:=by
  rw[ai.out];exact⟨M,xm.out,m9.out,m1.out,XFo hM.out (fun j _ h=>h.elim id (fun e=>by cases e)),X0O _ _,Xro _ _,bq.out⟩
 replace aq:=hid aq;clear xm;go_wp2_with fail;go_loopg [14,15,16,17] b.length (fun g va vi vn vt wr=>∃k:Nat,k≤b.length∧vi= .int .i64 k∧g=b.length - k∧FdR Tryz.prog 32 (fun j=>Jx J w j∨j=w2.heap.size) w w2.heap.size w3.heap.size (fun Mk=>Mk) w3 (G (b.take k)) va wr)
 case atStart=>exact⟨0,Nat.zero_le _,rfl,rfl,by rw[List.take_zero];exact aq.out⟩
 case round=>
  obtain⟨k,hk,rfl,rfl,Mk,R,k9,k1,t,r,f,I⟩:=hrel;have bs:w3.heap.size≤wr.heap.size:=f.1;have a6:Old (fun j=>Jx J w j∨j=w2.heap.size) wr:=fun j hj=>hj.elim (hJ.out wr (by omega) j) (fun e=>by omega);by_cases hlt:k<b.length
  ·have aO:(k:Int)<(b.length:Int):=by omega
   have aR:=X4o rb.out (XGx (K:=fun j=>Jx J w j∨w1.heap.size≤j) f (fun j e=> .inr (by omega)));obtain⟨bb,off,rfl,aK,a9⟩:=ri_at aR.1 (by omega);have hc:=a9 k hlt;have aY:=a4.out b[k] (List.getElem_mem hlt);have T:=fun V W h=>aa.out k b[k] V W h aY;have P:=aj.out (b.take k) b[k];rw[←List.take_succ_eq_append_getElem hlt] at P;have an:=ab.out (k+1);obtain⟨x,hx⟩: ∃x,b[k]=x:=⟨_,rfl⟩;rw[hx] at hc T P;obtain⟨⟨q1,q2⟩,hq⟩: ∃q,Mch.feedM (G (b.take k)).1 x=q:=⟨_,rfl⟩;rw[hq] at T P;rw[P] at an;obtain⟨⟨m,l⟩,hQ⟩: ∃Q,G (b.take k)=Q:=⟨_,rfl⟩;rw[hQ] at T P t r an;dsimp only at T P t r an
   rw[List.length_append] at an;obtain⟨po,co,rfl⟩:=X0b (X0a r);obtain⟨KV,ak⟩: ∃K:Nat→Prop,K=fun j=>(Jx J w j∨j=w2.heap.size)∨(Value.slice po l.length co).ownBlock=some j:=⟨_,rfl⟩;have av:Old KV wr:=by rw[ak];exact XGC a6 r
   have au:RMo KV wr (.agg Mk) m:=by rw[ak];exact t
   have a0: ∀j,(Jx J w j∨j=w2.heap.size)∨(Value.slice po l.length co).ownBlock=some j→KV j:=by rw[ak];exact fun _ h=>h
   have aD:KV w2.heap.size:=a0 _ (.inl (.inr rfl));clear t ak;have t:=au;clear au;have n:=R;dsimp only at n;replace t:=hid t;replace r:=hid r;replace f:=hid f;replace I:=hid I;replace T:=hid T;replace P:=hid P;replace n:=hid n;replace av:=hid av;replace hc:=hid hc;replace aD:=hid aD;replace a0:=hid a0;clear a9 hx hq hQ aR R k1 a6;go_upto_region 7 with(fail);replace n:=hid (XFa n.out (Below.refl _ _).drew);replace t:=hid (XFn t.out (Below.refl _ _).drew)
   refine RgA.XGu (S:=fun _=>True) (J0:=fun _=>False) (X:= [0,1,2,3,4,5,6,7,9]) (Y:= [8]) (A:= [9]) (F:=fun fk KJ v wz=>match fk with | 0=>v= .agg Mk | 1=>v= .slice (some ⟨bb,off,none⟩) b.length cb | 2=>v= .int .i64 k | 3=>v= .pointer (some ⟨bb,off+k,none⟩) | 4=>v= .int .i64 x | 5=>FMv KV KJ (q1,q2) v wz | 6=>FMv KV KJ (q1,q2) v wz | 7=>RMo (fun j=>KV j∨KJ j) wz v q1 | 8=>RIo (fun j=>KV j∨KJ j) wz v q2 | 9=>FPx Tryz.prog wr.heap.size zeroM 32 v wz | _=>True) _ (fun _ _=>trivial) (by kernel_rfl) (by kernel_rfl) (by kernel_rfl) (by decide) (fun c a d v wz h=>by cases d <;> exact h) (fun _ h=>h.elim) ?stable ?fresh ?self ?step ?pure ?fin
   case stable=>
    intro k KJ v wz bw h hb
    match k,h with
    | 0,h=>exact h
    | 1,h=>exact h
    | 2,h=>exact h
    | 3,h=>exact h
    | 4,h=>exact h
    | 5,h=>exact XGM h hb
    | 6,h=>exact XGM h hb
    | 7,h=>exact XFn h hb
    | 8,h=>exact XFG h hb
    | 9,h=>exact XFX h hb
    | _+10,h=>trivial
   case fresh=>
    intro k KJ v wz p h hp
    match k,h with
    | 0,h=>exact h
    | 1,h=>exact h
    | 2,h=>exact h
    | 3,h=>exact h
    | 4,h=>exact h
    | 5,h=>exact XGN h hp
    | 6,h=>exact XGN h hp
    | 7,h=>exact XGK h hp
    | 8,h=>exact XGL h hp
    | 9,h=>exact h
    | _+10,h=>trivial
   case self=>
    intro k hk J1 J2 v wz h;simp only[List.mem_cons,List.not_mem_nil,or_false] at hk;subst hk;exact h
   case step=>
    simp only[List.cons_append,List.nil_append];refine RgA.Steps.cons (o:=⟨_,_,_,_,_,_⟩) rfl ?_ (RgA.Steps.cons (o:=⟨_,_,_,_,_,_⟩) rfl ?_ (RgA.Steps.cons (o:=⟨_,_,_,_,_,_⟩) rfl ?_ (RgA.Steps.cons (o:=⟨_,_,_,_,_,_⟩) rfl ?_ (RgA.Steps.cons (o:=⟨_,_,_,_,_,_⟩) rfl ?_ (RgA.Steps.cons (o:=⟨_,_,_,_,_,_⟩) rfl ?_ (RgA.Steps.cons (o:=⟨_,_,_,_,_,_⟩) rfl ?_ (RgA.Steps.cons (o:=⟨_,_,_,_,_,_⟩) rfl ?_ (RgA.Steps.cons (o:=⟨_,_,_,_,_,_⟩) rfl ?_ (RgA.Steps.cons (o:=⟨_,_,_,_,_,_⟩) rfl ?_ RgA.Steps.nil)))))))))
    ·intro y wz KJ D L z hd K' hK;rw[RgA.X0q _ lq9e8b (by kernel_rfl)] at hK ⊢;simp only[lq9e8b,RgA.mkE] at hK ⊢;refine atL (XFa n.out z) ?_;have H:=hK.out (.agg Mk) wz (rfl) (Below.refl _ _) (fun h=>by simp at h);simp only[Act.put,putA] at H;exact H
    ·intro y wz KJ D L z hd K' hK;rw[RgA.X0q _ lq9e8b (by kernel_rfl)] at hK ⊢;simp only[lq9e8b,RgA.mkE] at hK ⊢;go_simp;have H:=hK.out (.slice (some ⟨bb,off,none⟩) b.length cb) wz (rfl) (Below.refl _ _) (fun h=>by simp at h);simp only[Act.put,putA] at H;exact H
    ·intro y wz KJ D L z hd K' hK;rw[RgA.X0q _ lq9e8b (by kernel_rfl)] at hK ⊢;simp only[lq9e8b,RgA.mkE] at hK ⊢;go_simp;have H:=hK.out (.int .i64 k) wz (rfl) (Below.refl _ _) (fun h=>by simp at h);simp only[Act.put,putA] at H;exact H
    ·intro y wz KJ D L z hd K' hK;have d1:(y 1)= .slice (some ⟨bb,off,none⟩) b.length cb:=hd 1 (by kernel_rfl);have d2:(y 2)= .int .i64 k:=hd 2 (by kernel_rfl);rw[RgA.X0q _ lq9e8b (by kernel_rfl)] at hK ⊢;simp only[lq9e8b,RgA.mkE] at hK ⊢;rw[d1,d2] at hK ⊢;go_simp;have H:=hK.out (.pointer (some ⟨bb,off+k,none⟩)) wz (rfl) (Below.refl _ _) (fun h=>by simp at h);simp only[Act.put,putA] at H;exact H
    ·intro y wz KJ D L z hd K' hK;have d3:(y 3)= .pointer (some ⟨bb,off+k,none⟩):=hd 3 (by kernel_rfl);rw[RgA.X0q _ lq9e8b (by kernel_rfl)] at hK ⊢;simp only[lq9e8b,RgA.mkE] at hK ⊢;rw[d3] at hK ⊢;have cx:=(z.cell aK).trans hc.out;go_simp;have H:=hK.out (.int .i64 x) wz (rfl) (Below.refl _ _) (fun h=>by simp at h);simp only[Act.put,putA] at H;exact H
    ·intro y wz KJ D L z hd K' hK;have d0:(y 0)= .agg Mk:=hd 0 (by kernel_rfl);have d4:(y 4)= .int .i64 x:=hd 4 (by kernel_rfl);rw[RgA.X0q _ lq9e8b (by kernel_rfl)] at hK ⊢;simp only[lq9e8b,RgA.mkE] at hK ⊢;rw[d0,d4] at hK ⊢;go_simp;refine(T.out _ wz (XFr (XFn t.out z))).mono ?_;intro e w1 aL;obtain⟨b3,b4,rfl,r1,r2,q⟩:=XFq aL (fun j hj=>hj.elim (fun h=>Nat.lt_of_lt_of_le (av.out j h) z.size) (fun h=>(D j h).1)) (XGm (K:=fun j=>KV j∨KJ j) t.out (fun j hj=>hj.elim .inl fun h=> .inr ((D j h).2.elim (fun h=>h.elim) id)) |> fun h=>XFn h z);dsimp only at r1 r2;go_wp2_with fail
     have H:=hK.out (.tuple #[b3,b4]) w1 (⟨b3,b4,rfl,r1,r2⟩) (q) (fun h=>by simp at h);simp only[Act.put,putA] at H;exact H
    ·intro y wz KJ D L z hd K' hK;have d5:FMv KV KJ (q1,q2) (y 5) wz:=hd 5 (by kernel_rfl);rw[RgA.X0q _ lq9e8b (by kernel_rfl)] at hK ⊢;simp only[lq9e8b,RgA.mkE] at hK ⊢;go_simp;have H:=hK.out (y 5) wz (d5) (Below.refl _ _) (fun h=>by simp at h);simp only[Act.put,putA] at H;exact H
    ·intro y wz KJ D L z hd K' hK;have d6:FMv KV KJ (q1,q2) (y 6) wz:=hd 6 (by kernel_rfl);rw[RgA.X0q _ lq9e8b (by kernel_rfl)] at hK ⊢;simp only[lq9e8b,RgA.mkE] at hK ⊢;obtain⟨va,vb,eP,r1,r2⟩:=d6;try dsimp only at eP r1 r2
     rw[eP] at hK ⊢;clear eP;go_simp;have H:=hK.out (va) wz (r1) (Below.refl _ _) (fun h=>by simp at h);simp only[Act.put,putA] at H;exact H
    ·intro y wz KJ D L z hd K' hK;rw[RgA.X0q _ lq9e8b (by kernel_rfl)] at hK ⊢;simp only[lq9e8b,RgA.mkE] at hK ⊢;go_simp;have H:=hK.out (.pointer (some ⟨wz.heap.size,0,none⟩)) (wz.alloc (.cells zeroM 32)) (⟨_,rfl,z.size,XFb vz_M wz⟩) (X04 wz _) (fun _=>XFZ wz _);simp only[Act.put,putA] at H;exact H
    ·intro y wz KJ D L z hd K' hK;have d6:FMv KV KJ (q1,q2) (y 6) wz:=hd 6 (by kernel_rfl);rw[RgA.X0q _ lq9e8b (by kernel_rfl)] at hK ⊢;simp only[lq9e8b,RgA.mkE] at hK ⊢;obtain⟨va,vb,eP,r1,r2⟩:=d6;try dsimp only at eP r1 r2
     rw[eP] at hK ⊢;clear eP;go_simp;have H:=hK.out (vb) wz (r2) (Below.refl _ _) (fun h=>by simp at h);simp only[Act.put,putA] at H;exact H
   case pure=>
    refine RgA.Pures.cons rfl ?_ RgA.Pures.nil
    ·intro y wz KJ hd;have d6:FMv KV KJ (q1,q2) (y 6) wz:=hd 6 (by kernel_rfl);obtain⟨va,vb,eP,r1,r2⟩:=d6;try dsimp only at eP r1 r2
     refine⟨vb,r2,?_⟩;rw[RgA.X0q _ lq9e8b (by kernel_rfl)];simp only[lq9e8b,RgA.mkE];rw[eP];refine⟨by kernel_rfl,fun w'=>?_⟩;go_simp
   intro y wy aB KJ _ aH _ hF _;have d0:(y 0)= .agg Mk:=hF 0 (by decide);have d1:(y 1)= .slice (some ⟨bb,off,none⟩) b.length cb:=hF 1 (by decide);have d2:(y 2)= .int .i64 k:=hF 2 (by decide);have d3:(y 3)= .pointer (some ⟨bb,off+k,none⟩):=hF 3 (by decide);have d4:(y 4)= .int .i64 x:=hF 4 (by decide);have d5:FMv KV KJ (q1,q2) (y 5) wy:=hF 5 (by decide);have d6:FMv KV KJ (q1,q2) (y 6) wy:=hF 6 (by decide);have d7:RMo (fun j=>KV j∨KJ j) wy (y 7) q1:=hF 7 (by decide);have d8:RIo (fun j=>KV j∨KJ j) wy (y 8) q2:=hF 8 (by decide);have d9:FPx Tryz.prog wr.heap.size zeroM 32 (y 9) wy:=hF 9 (by decide)
   rw[RgA.X0q _ lq9e8b (by kernel_rfl)];simp only[lq9e8b,RgA.mkE];obtain⟨pn,e9,aP,xn⟩:=d9;obtain⟨MO,e7,a1,a2,_⟩:=rmo_x d7;obtain⟨pt,ct,e8⟩:=X0b d8.1;have j9:=aH 9 (by decide) pn e9;rw[e7] at d7;rw[e8] at d8;rw[d0,d1,d2,d3,d4,e7,e8,e9];generalize y 5=y5;generalize y 6=y6;have vo:=vx_M a1 a2;unfold TR15 at vo;have aI:Below wr.heap.size wr wy:=X05 (Below.refl _ _).drew aB;replace n:=XFa n.out aB;clear d0 d1 d2 d3 d4 d5 d6 e7 e8 e9 t aB T hc;refine' tkS 10 rfl xn vo (fun w6 p=>?_);refine⟨trivial,?_⟩;have u:=XFf (J:=fun j=>KV j∨KJ j) p (.inr j9);have r7:=XFo (K:=KV) (XFm d7 u) (fun _ _ h=> .inl h)
   have r8:=X49 (K:=KV) (X4o d8 u) (fun _ _ h=> .inl h);have aQ:wr.heap.size≤pn:=aP;have bg:w2.heap.size≠pn:=by omega
   have O:=XFh n p bg;have ar:=XFg p vo;have am:=p.below _ _ aQ aI;clear u p d7 d8 xn n aI j9 aP;refine' tk 11 rfl trivial ?_;try simp only[putA]
   refine wpAnyH_done (by kernel_rfl) ?_ _;have ac:=X0x r.out am;have C:X4l (fun j=>j=w2.heap.size) w3 w6:=X1m f.out (X1e am);have N:=X05 I.out am;replace vo:=hid vo;replace O:=hid O;replace ar:=hid ar;replace r7:=hid r7;replace r8:=hid r8;replace ac:=hid ac;replace C:=hid C;replace N:=hid N;clear am r f I aH hF;go_upto_region 9 with(first | refine ldX ar.out ?_ | refine stX O.out vo.out fun w7 p=>?_);have aC:=hid (XFg p vo.out);have u:=XFf (J:=KV) p aD.out;have aG:=XFo (K:=fun j=>(Jx J w j∨j=w2.heap.size)∨(Value.slice po l.length co).ownBlock=some j) (XFm r7.out u) (fun j _ h=>a0.out j h)
   have bn:=hid (X0Y (X4o r8.out u).1);have ao:=hid (XA8 ac.out p.only (Xe4 ac.out aZ).symm);have ad:=hid (show X4l (fun j=>j=w2.heap.size) w3 w7 from X1m C.out p.only);have bd:=hid (p.below _ _ (by omega) N.out);have aV:=hid (show w3.heap.size≤w7.heap.size from ad.out.1);have aU:=hid (show w.heap.size≤w7.heap.size by have:=ad.out.1;omega);have aN:=hid (show w.heap.size≤w3.heap.size by omega);have bh:=hid (Xe4 ao.out aZ).symm;have b6:=hid (show l.length+q2.length≤maxLen by unfold maxLen;omega);have b7:=hid (show (l.length+q2.length) *8≤140737488355328 by omega);replace aG:=hid aG
   clear u p O ar r7 r8 ac C N vo;go_wp2_with (at_builtin;refine X1i rfl _ _ 24 rfl w3.heap.size 3 i0 (.int .i64 0) 8 Tryz.underlying24 bf bi bj bk rfl _ _ _ rfl ao.out _ _ rfl bn.out (X0u q2) (by rw[List.length_map];exact b6.out) (by rw[List.length_map];exact b7.out) aV.out ?_;intro v5 w5 ae B a3;have o5:=hid (X0i (l:=l++q2) ae (by simp) (by simp));have x5:=hid (XGy aC.out B bh.out);have r5:=hid (XGA aG.out B a3);have bm:=hid (XGz ad.out B ao.out);have b5:=hid (X0k bd.out B aU.out ao.out aN.out);clear ae B a3);go_roundg (b.length - (k+1))
   case measure=>omega
   case rel=>exact⟨k+1,by omega,by go_num,rfl,by rw[P.out];exact⟨MO,x5.out,a1,a2,r5.out,o5.out,bm.out,b5.out⟩⟩
  ·obtain rfl:k=b.length:=by omega
   have aO:decide ((b.length:Int)<(b.length:Int))=false:=by simp
   rw[List.take_length,a7.out] at t r;obtain⟨m2,l2⟩:=Q0;dsimp only at t r R;obtain⟨po,co,rfl⟩:=X0b (X0a r);have v9:=vx_S (X:=Mk++ #[.slice po l2.length co, .bool false, .bool false]) (by simp [k9]) (all12 k1);have b2:=rs_mk (J:=Jx J w) (w:=wr) (e:=false) (h:=false) (XFo t fun j _ h=> .inl (.inl h)) (Xzb r fun j h1 h2=>absurd (hJ.out w3 (by omega) j h2) (Nat.not_lt.2 h1));have aE:=XGx (K:=fun j=>Jx J w j∨w1.heap.size≤j) f (fun j e=> .inr (by omega));have y1:=XGw x1.out f (by omega);have y2:=XGw x2.out f (by omega);have g0:=XGw r0.out f (by omega);have g1:=XGw r1.out f (by omega)
   have g2:=XGw r2.out f (by omega);have b0:=X0Q (K:=Jx J w) (X0L rj.out aE) (fun _ _ h=> .inl h);have b1:=X0Q (K:=Jx J w) (X0L rp.out aE) (fun _ _ h=> .inl h);unfold TR17 at v9;clear x1 x2 r0 r1 r2 rj rp bq;have rt:=hid b2;have rj:=hid b0;have rp:=hid b1;have xm:=hid R;have x1:=hid y1;have x2:=hid y2;have r0:=hid g0;have r1:=hid g1;have r2:=hid g2;have bq:=hid I;have bl:=hid k9;replace v9:=hid v9;have br:W.heap.size≤wr.heap.size:=by omega
   clear b2 b0 b1 y1 y2 g0 g1 g2 R I f aE t r aj ab aa ai a7 aq hM E h9 ag ah a5 vm al m9 m1 a8 vt rb a4 k1 a6 hF;go_upto_region 10 with(fail);refine wp_region_held_drew (S:=fun W=>Bx Tryz.prog W w2.heap.size Mk 32∧Bx Tryz.prog W w1.heap.size Y1 37∧Bx Tryz.prog W (w.heap.size+1+1) Z 37) (by kernel_rfl) ⟨XFa xm.out (Below.refl _ _).drew,XFa x1.out (Below.refl _ _).drew,XFa x2.out (Below.refl _ _).drew⟩ (fun hS=>?_);replace r0:=hid (XFa r0.out (Below.refl _ _).drew);replace r1:=hid (XFa r1.out (Below.refl _ _).drew);replace r2:=hid (XFa r2.out (Below.refl _ _).drew)
   replace bq:=hid (X05 bq.out (Below.refl _ _).drew);replace rt:=hid (X08 rt.out (Below.refl _ _).drew);replace rj:=hid (X01 rj.out (Below.refl _ _).drew);replace rp:=hid (X01 rp.out (Below.refl _ _).drew);refine' tkL 0 rfl (fun _ h=>h.1) hS ?_;try simp only[putA]
   refine' tk 1 rfl hS ?_;try simp only[putA]
   refine' tkO 2 rfl (fun W=>XGS bl.out W) hS ?_;try simp only[putA]
   refine' tkL 3 rfl (fun _ h=>h.2.1) hS ?_;try simp only[putA]
   refine' tkL 4 rfl (fun _ h=>h.2.2) hS ?_;try simp only[putA]
   refine' tkS 5 rfl r0.out v9.out (fun bt p0=>?_);have g:=And.intro (XFh hS.1 p0 (by omega)) (And.intro (XFh hS.2.1 p0 (by omega)) (XFh hS.2.2 p0 (by omega)));refine⟨g,?_⟩;replace hS:=g;clear g;try simp only[putA]
   have u:=XFf (J:=Jx J w) p0 (.inr ⟨by omega,by omega⟩);have s0:=hid (XFg p0 v9.out);replace r1:=hid (XFh r1.out p0 (by omega));replace r2:=hid (XFh r2.out p0 (by omega));replace rt:=hid (X3f rt.out u);replace rj:=hid (X0L rj.out u);replace rp:=hid (X0L rp.out u);replace bq:=hid (p0.below _ _ (by omega) bq.out);clear u p0;refine' tkS 6 rfl r1.out U.out (fun bu p1=>?_);have g:=And.intro (XFh hS.1 p1 (by omega)) (And.intro (XFh hS.2.1 p1 (by omega)) (XFh hS.2.2 p1 (by omega)));refine⟨g,?_⟩;replace hS:=g;clear g;try simp only[putA]
   have u:=XFf (J:=Jx J w) p1 (.inr ⟨by omega,by omega⟩);have s1:=hid (XFg p1 U.out);replace r2:=hid (XFh r2.out p1 (by omega));replace s0:=hid (XFh s0.out p1 (by omega));replace rt:=hid (X3f rt.out u);replace rj:=hid (X0L rj.out u);replace rp:=hid (X0L rp.out u);replace bq:=hid (p1.below _ _ (by omega) bq.out);clear u p1;refine' tkS 7 rfl r2.out vp.out (fun bv p2=>?_);have g:=And.intro (XFh hS.1 p2 (by omega)) (And.intro (XFh hS.2.1 p2 (by omega)) (XFh hS.2.2 p2 (by omega)));refine⟨g,?_⟩;replace hS:=g;clear g;try simp only[putA]
   have u:=XFf (J:=Jx J w) p2 (.inr ⟨by omega,by omega⟩);have s2:=hid (XFg p2 vp.out);replace s0:=hid (XFh s0.out p2 (by omega));replace s1:=hid (XFh s1.out p2 (by omega));replace rt:=hid (X3f rt.out u);replace rj:=hid (X0L rj.out u);replace rp:=hid (X0L rp.out u);replace bq:=hid (p2.below _ _ (by omega) bq.out);clear u p2;refine' tk 8 rfl hS ?_;try simp only[putA]
   refine wpAnyH_done (by kernel_rfl) ?_ _;clear hS;go_wp2_with fail;exact bodyPost_ret (res4 (v:= .bool true) s0.out s1.out s2.out) rfl ⟨_,_,_,rfl,X3s rt.out (fun _ _ h=>Or.inl h),X0Q rj.out (fun _ _ h=>Or.inl h),X0Q rp.out (fun _ _ h=>Or.inl h),bq.out⟩
def XFP:Prop:=∀ (v:Value) (m:MS) (w:World),Mch.Small m→RM w v m→Calls Tryz.prog 51 #[v] w fun e w'=>e= .returned (.int .i64 (Mch.costM m:Nat))∧Below w.heap.size w w'
theorem XFQ(hA:XFx)(hC:XFP)(J:Nat→Prop)(v:Value)(s:St)(w:World)(hold:Old J w)(hs:s.Small)(hv:RS J w v s):Calls Tryz.prog 21 #[v] w fun e w'=>e= .returned (.int .i64 (Stg.costS s:Nat))∧Below w.heap.size w w':=by
 have f:=fun V W h1 h3=>hA J V s W h1 hs h3;have k:=Stg.Xye s;have l:=Stg.XnT s;unfold Stg.costS at k ⊢;obtain⟨t,ht⟩: ∃t,Stg.asS s=t:=⟨_,rfl⟩;rw[ht] at f k l ⊢;have u:=Mch.small_sane l.m;obtain⟨c,hc⟩: ∃c,Mch.costM t.m=c:=⟨_,rfl⟩;have b:=fun V W h=>hC V t.m W u h;rw[hc] at b k ⊢;clear ht hc hA hC hs u l;obtain⟨X,rfl,o,r⟩:=rs_x hv;have x0:=hid (XFb (vx_S o r) w);have bq:=hid (X04 w (.cells X 34));have a:=hid (f _ (w.alloc (.cells X 34)) (fun j hj=>Nat.lt_of_lt_of_le (hold j hj) bq.out.size) (X08 hv bq.out));unfold TR17 at *
 obtain⟨W,hW⟩: ∃W,w.alloc (.cells X 34)=W:=⟨_,rfl⟩;rw[hW] at x0 bq a;replace hW:=hid hW;replace b:=hid b;clear o r hv hold f;go_enter Tryz.func21,Tryz.ntmps21;go_upto_region 1 with(fail);rw[hW.out];go_wp2_with (refine ldX x0.out ?_);refine a.out.mono ?_;rintro e w1 ⟨v1,rfl,rt,q⟩;obtain⟨XT,rfl,a1,a2⟩:=rs_x rt;have vt:=hid (vx_S a1 a2);replace bq:=hid (X05 bq.out q);clear q x0 a a2;go_upto_region 2 with(refine stX (XFb vz_S w1) vt.out fun w2 p=>?_);have q:=p.below _ _ (Nat.le_refl _) (X04 w1 _);have t0:=XFg p vt.out;replace rt:=X08 rt q;replace bq:=hid (X05 bq.out q);clear p q
 obtain⟨_,⟨pp,cp,h9,_⟩,_,_,hM⟩:=XFp rt;obtain⟨M,d⟩: ∃M,XT.extract 0 9=M:=⟨_,rfl⟩;have i:M.size=9:=by rw[←d,Array.size_extract,a1];rfl
 rw[d] at hM;obtain⟨M',g,_,n,_⟩:=rmo_x hM;injection g with g;subst g;have vm:=hid (vx_M i n);have x:=hid (show M=XT.extract 0 (0+M.size) by rw[i];exact d.symm);have c9:=XFe t0 9 _ h9;have y:=hid (b.out (.agg M) w2.drew (X0d (XFr hM) (Below.refl _ _).drew));have z:(0:Int)≤(c:Int)+(t.pend.length:Int):=by omega
 have A:(c:Int)+(t.pend.length:Int)≤288:=by omega
 replace h9:=hid h9;clear d i n hM a1 rt;refine wp_region_held_drew (S:=fun W=>Bx Tryz.prog W w1.heap.size XT 34∧W.cell? ⟨w1.heap.size,9,none⟩=some (.slice pp t.pend.length cp)) (by kernel_rfl) ⟨XFa t0 (Below.refl _ _).drew,c9⟩ (fun hS=>?_);refine' tk 0 rfl hS ?_;try simp only[putA]
 refine' tkM 1 rfl (fun _ h=>h.1) 0 vm.out x.out hS ?_;try simp only[putA]
 refine' tk 3 rfl hS ?_;try simp only[putA]
 refine' tk 4 rfl hS ?_;try simp only[putA]
 refine' tk 5 rfl hS ?_;try simp only[putA]
 refine rdy 2 rfl fun K hK=>?_;go_simp;go_at_call 51;refine y.out.mono ?_;rintro e w3 ⟨rfl,q⟩;go_wp2_with fail;refine hK.out _ _ ⟨XFa hS.1 q,XFe (XFa hS.1 q) 9 _ h9.out⟩ (fun hSn=>?_);clear hK K hS;have hS:=hSn;clear hSn;try simp only[putA]
 replace bq:=hid (X05 (X05 bq.out (Below.refl _ _).drew) q);clear q c9;refine' tk 6 rfl hS ?_;try simp only[putA]
 refine' tk 7 rfl hS ?_;try simp only[putA]
 refine wpAnyH_done (by kernel_rfl) ?_ _;clear hS;go_wp2_with fail;go_ret;exact⟨by simp;rw[IntKind.wrap_i64];omega,bq.out⟩
end Go.Proofs.YtkofnpkopbnocaaGreatDoor
