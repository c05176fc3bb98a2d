import Derived.Test.YtkofnpkopbnocaaGreatDoorStVk
import Derived.Test.YtkofnpkopbnocaaGreatDoorStBk
import Derived.Test.YtkofnpkopbnocaaGreatDoorStMk
import Derived.Test.YtkofnpkopbnocaaGreatDoorChPk
import Derived.Deep.LoopGhost
import Derived.Deep.DeepCutAuto
set_option maxRecDepth 100000
set_option maxHeartbeats 25600000
namespace Go.Proofs.YtkofnpkopbnocaaGreatDoor
set_option linter.unusedSimpArgs false
set_option linter.unusedVariables false
open Go Go.RowKit Go.Lib
open Mch (MS)
open Stg (Ch St)
theorem XH5{K:Nat→Prop}{w w1:World}{v v5 x:Value}{s:St}(h:RS (fun j=>K j∨v.ownBlock=some j) w x s)(hg:w.grownBy w1 v.ownBlock)(hl:Lies v5 v w):RS (fun j=>K j∨v5.ownBlock=some j) w1 x s:=by
 have h1:RS (fun j=>K j∨v.ownBlock=some j∨v5.ownBlock=some j) w x s:=XFC h fun j hj=>by
  rcases hj with hj | hj | hj
  ·exact .inl (.inl hj)
  ·exact .inl (.inr hj)
  ·rcases hl with hl | ⟨k,hl,hk⟩
   ·exact .inl (.inr (hl ▸ hj))
   ·rw[hl] at hj
    cases hj
    exact .inr hk
 exact X3s (X3f h1 (X55 hg fun j e=> .inr (.inl e))) fun j _ hj=>hj.elim .inl fun e=> .inr (.inr e)
theorem XH0{K:Nat→Prop}{w w1:World}{v v5 x:Value}{c:Ch}(h:RCh (fun j=>K j∨v.ownBlock=some j) w x c)(hg:w.grownBy w1 v.ownBlock)(hl:Lies v5 v w):RCh (fun j=>K j∨v5.ownBlock=some j) w1 x c:=by
 have h1:RCh (fun j=>K j∨v.ownBlock=some j∨v5.ownBlock=some j) w x c:=XFA h fun j hj=>by
  rcases hj with hj | hj | hj
  ·exact .inl (.inl hj)
  ·exact .inl (.inr hj)
  ·rcases hl with hl | ⟨k,hl,hk⟩
   ·exact .inl (.inr (hl ▸ hj))
   ·rw[hl] at hj
    cases hj
    exact .inr hk
 exact X0Q (X0L h1 (X55 hg fun j e=> .inr (.inl e))) fun j _ hj=>hj.elim .inl fun e=> .inr (.inr e)
theorem XH2{W:World}{b off n cap lo hi:Nat}{l:List Int}(h:RI W (.slice (some ⟨b,off,none⟩) n cap) l)(h1:lo<hi)(h2:hi≤n)(hl:0<l.length):RI W (.slice (some ⟨b,off+lo,none⟩) (hi - lo) (cap - lo)) ((l.drop lo).take (hi - lo))∧∀ (ev:Operand→Value) (x y z:Operand) (d:Option Tmp) (ty:TypeId) (po:String) (af:Array Edge) (gd:Option (Nat × Bool)) (w:World),ev x= .slice (some ⟨b,off,none⟩) n cap→ev y= .int .i64 lo→ev z= .int .i64 hi→
 (execOp ev ⟨d, .slice 24 x (some y) (some z) none,ty,po,af,gd⟩).run Tryz.prog w= .ok (.value (.slice (some ⟨b,off+lo,none⟩) (hi - lo) (cap - lo))) w:=by
 obtain⟨hn,hc,_⟩:=Xfw h
 subst hn
 have n1: ¬(cap:Int)<(hi:Int):=by omega
 have n2: ¬(hi:Int)<(lo:Int):=by omega
 have n3:(0:Int)≤(lo:Int):=by omega
 have n4:(lo:Int)≤(hi:Int):=by omega
 have n5:(hi:Int)≤(cap:Int):=by omega
 have n6:(lo:Int)<(cap:Int):=by omega
 have n7: ¬(lo:Int)<0:=by omega
 have n8: ¬(hi:Int)<0:=by omega
 have n9:(0:Int)≤(hi:Int):=by omega
 have m1:lo≤hi:=by omega
 have m2:hi≤cap:=by omega
 have m3:lo<cap:=by omega
 have m4: ¬cap=lo:=by omega
 refine⟨Xt2 (XgN h lo (by omega) hl) (hi - lo) (by rw[List.length_drop];omega),fun ev x y z d ty po af gd w e0 e1 e2=>?_⟩
 unfold execOp
 simp only[e0,e1,e2]
 go_simp
theorem XH3{ev:Operand→Value}{d:Option Tmp}{ty:TypeId}{po:String}{af:Array Edge}{gd:Option (Nat × Bool)}(w:World):
 (execOp ev ⟨d, .build TO16 #[],ty,po,af,gd⟩).run Tryz.prog w= .ok (.value (.agg #[.slice none 0 0, .bool false])) w:=by
 unfold execOp
 kernel_rfl
theorem Stg.rnd_wf{k:Int}{l:List Int}{p:Nat}{i:Ch}{s:St}{got:List Int}{N:Nat}(h:Stg.Rnd k l p i s got N)(hw:WfI l):i.Wf:=by
 obtain⟨_,_,_,_,F,hF,_,_⟩:=h
 intro b hb x hx
 have h1:x∈F++i.L.flatten:=List.mem_append_right _ (List.mem_flatten.2 ⟨b,hb,hx⟩)
 rw[hF] at h1
 exact hw x (List.mem_of_mem_take h1)
theorem Stg.rnd_small{k:Int}{l:List Int}{p:Nat}{i:Ch}{s:St}{got:List Int}{N:Nat}(h:Stg.Rnd k l p i s got N):s.Small:=by
 have h1:=h.sane
 have h2:=((Mch.X1b s.m).1 h1.m).kind
 exact Stg.small_sane ((Stg.X3I s).2 h1) ⟨by omega,by omega⟩
def JA(kS kI kO:Nat)(v:Value):Nat→Prop:=fun j=>(j=kS∨j=kI∨j=kO)∨v.ownBlock=some j
def AllR(kd:Int)(l:List Int)(kS kI kO B:Nat)(w:World)(p:Nat)(i:Ch)(s:St)(got:List Int)(N:Nat)(vg:Value)(wr:World):Prop:=
 Stg.Rnd kd l p i s got N∧∃XS YI ZO,Bx Tryz.prog wr kS XS 48∧RS (JA kS kI kO vg) wr (.agg XS) s∧Bx Tryz.prog wr kI YI 49∧RCh (JA kS kI kO vg) wr (.agg YI) i∧Bx Tryz.prog wr kO ZO 49∧RCh (JA kS kI kO vg) wr (.agg ZO) ⟨[],s.shut⟩∧OwnI B vg got wr∧B≤wr.heap.size∧Below w.heap.size w wr
theorem XH4{kS kI kO B:Nat}{v:Value}{l:List Int}{w:World}(h1:kS<w.heap.size)(h2:kI<w.heap.size)(h3:kO<w.heap.size)(ho:OwnI B v l w):Old (JA kS kI kO v) w:=fun j hj=>by
 rcases hj with(e | e | e) | e
 ·omega
 ·omega
 ·omega
 ·exact(World.ownsRow.lt ho j e).2
theorem Stg.rnd_len{k:Int}{l:List Int}{p:Nat}{i:Ch}{s:St}{got:List Int}{N:Nat}(h:Stg.Rnd k l p i s got N)(hl:l.length≤60):got.length≤10000:=by
 obtain⟨b,_,_,_,F,hF,_,hc⟩:=h
 have a:F.length≤60:=by
  have:=congrArg List.length hF
  simp at this
  omega
 have h1:=Stg.XhI (Mch.newM k) F
 rcases hc with⟨_,_,h2⟩ | ⟨_,h3,_,_,h2⟩
 ·have:=congrArg List.length h2
  simp at this
  omega
 ·have h4:=congrArg List.length h2
  have h5:=(Mch.X5D (Mch.X0N (Mch.newM k) l).1).1
  have h6:=Stg.XhI (Mch.newM k) l
  unfold Mch.allM at h4
  simp at h4
  omega
theorem XGZ{K J:Nat→Prop}{c:Ch}{v:Value}{w:World}{p:Nat}(h:RCh (fun j=>K j∨J j) w v c)(hp:w.heap.size≤p):RCh (fun j=>K j∨(J j∨j=p)) w v c:=XFA h fun j hj=>by
 rcases hj with hj | hj | hj
 ·exact .inl (.inl hj)
 ·exact .inl (.inr hj)
 ·exact .inr (hj ▸ hp)
theorem XH1{K J:Nat→Prop}{q:Ch × Bool}{v:Value}{w:World}{p:Nat}(h:FB (fun j=>K j∨J j) q v w)(hp:w.heap.size≤p):FB (fun j=>K j∨(J j∨j=p)) q v w:=by
 obtain⟨vz,e,h1⟩:=h
 exact⟨vz,e,XGZ h1 hp⟩
theorem stageAll_walk(hN:NewC17)(hP:StepC17)(hK:CostC17)(hPu:PutC16)(hTk:TakeC16)(hCl:CloseC16)(hSp:SpentC16)(hAl:AllC15)(kd:Int)(vl:Value)(l:List Int)(sz:Int)(w:World)(hT:Tabs w)(ap:I64 kd)(hl:RI w vl l∧WfI l)(hsz0:I64 sz):
 Calls Tryz.prog 4 #[.int .i64 kd,vl, .int .i64 sz] w fun e w'=>e= .returned (.bool true)∧Below w.heap.size w w':=by
 obtain⟨hv,ar⟩:=hl
 obtain⟨i0,bB,bG,bH,bI⟩:=info_parts X2p
 have a7:=hid (fun W h=>X5R hN hP hK W h)
 obtain⟨pl,B,rfl⟩:=X0b hv
 have c0:=(Xfw hv).2.1
 replace hv:=hid hv
 replace hT:=hid hT
 replace ar:=hid ar
 replace ap:=hid ap
 go_enter Tryz.func4,Tryz.ntmps4
 go_wp2_with fail
 refine(a7.out w hT.out).mono ?_
 rintro e w1 ⟨rfl,q⟩
 have bq:=hid q
 have bw:=hid (tabs_next hT.out q)
 clear q a7
 by_cases hl60:l.length≤60
 ·have c1: ¬(60:Int)<(l.length:Int):=by omega
  by_cases hs1:sz<1
  ·go_wp2_with fail
   go_ret
   exact⟨rfl,bq.out⟩
  ·by_cases hs8:8<sz
   ·go_wp2_with fail
    go_ret
    exact⟨rfl,bq.out⟩
   ·obtain⟨size,rfl⟩: ∃n:Nat,sz=(n:Int):=⟨sz.toNat,by omega⟩
    have bd:1≤size:=by omega
    have be:size≤8:=by omega
    go_upto_region 4 with(fail)
    have b7:=hid (hN (fun _=>False) kd w1 ap.out)
    go_wp2_with fail
    refine b7.out.mono ?_
    rintro e w2 ⟨v0,rfl,al,q⟩
    obtain⟨X0,rfl,a1,a2⟩:=rs_x al
    have v2:=wx_S a1 a2
    have vz:=wz_S
    have vc:=wz_C
    unfold TO17 at v2 vz
    unfold TO16 at vc
    replace v2:=hid v2
    replace vz:=hid vz
    replace vc:=hid vc
    replace bq:=hid (X05 bq.out q)
    have bF:w.heap.size≤w2.heap.size:=bq.out.size
    replace al:=hid al
    unfold zeroS at vz
    unfold zeroC at vc
    clear q a1 a2 b7
    go_upto_region 5 with(refine stX (XFb vz.out w2) v2.out fun w3 p=>?_)
    have q:=p.below _ _ (Nat.le_refl _) (X04 w2 _)
    have xS:=hid (XFg p v2.out)
    have bg:w2.heap.size<w3.heap.size:=X1h xS.out.blk
    replace bq:=hid (X05 bq.out q)
    have M:=X08 (XFC (K:=fun j=>w2.heap.size≤j) al.out (fun j h=> .inr h)) q
    clear q p al
    replace M:=hid M
    go_upto_region 6 with(first | refine opX (XH3 w3) ?_ | refine stX (XFb vc.out w3) vc.out fun w4 p=>?_)
    have q:=p.below _ _ (Nat.le_refl _) (X04 w3 _)
    have xI:=hid (XFg p vc.out)
    have bh:w3.heap.size<w4.heap.size:=X1h xI.out.blk
    replace bq:=hid (X05 bq.out q)
    replace M:=hid (X08 M.out q)
    replace xS:=hid (XFa xS.out q)
    clear q p
    go_upto_region 7 with(first | refine opX (XH3 w4) ?_ | refine stX (XFb vc.out w4) vc.out fun w5 p=>?_)
    have q:=p.below _ _ (Nat.le_refl _) (X04 w4 _)
    have xO:=hid (XFg p vc.out)
    have bJ:w4.heap.size<w5.heap.size:=X1h xO.out.blk
    replace bq:=hid (X05 bq.out q)
    replace M:=hid (X08 M.out q)
    replace xS:=hid (XFa xS.out q)
    replace xI:=hid (XFa xI.out q)
    clear q p
    have aI:RIo (fun j=>w.heap.size≤j) w (.slice pl l.length B) l:=XFz (Xcz hv.out) (fun j h=> .inr h)
    obtain⟨kS,b5⟩: ∃k,w2.heap.size=k:=⟨_,rfl⟩
    obtain⟨kI,aZ⟩: ∃k,w3.heap.size=k:=⟨_,rfl⟩
    obtain⟨kO,b0⟩: ∃k,w4.heap.size=k:=⟨_,rfl⟩
    rw[b5] at xS bg M bF ⊢
    rw[aZ] at xI bh bg ⊢
    rw[b0] at xO bJ bh ⊢
    have av:AllR kd l kS kI kO w5.heap.size w 0 ⟨[],false⟩ (Stg.newS kd) [] (20 *l.length+8) (.slice none 0 0) w5:=
     ⟨Stg.XEA kd l,_,_,_,xS.out,X3s M.out (fun j _ h=>by rcases h with(h | h | h) | h <;> first | omega | cases h),xI.out,X5v _ _,xO.out,X5v _ _,X0O _ _,Nat.le_refl _,bq.out⟩
    have bv:w.heap.size≤w5.heap.size:=by omega
    replace av:=hid av
    replace aI:=hid aI
    clear b5 aZ b0 xS xI xO M bq bw v2 vz
    go_wp2_with fail
    go_loopg [11,12,13,14,15,16,17,18,19,20,21,22,23] 2000 (fun g vg va vn bn bN bO ca cc cd ce cf cg ch wr=>∃ (p k N:Nat) (i:Ch) (s:St) (C:List Int),va= .int .i64 p∧vn= .int .i64 k∧g=2000 - k∧N+k≤20 *l.length+8∧AllR kd l kS kI kO w5.heap.size w p i s C N vg wr)
    case atStart=>exact⟨0,0,_,_,_,_,rfl,rfl,rfl,by omega,av.out⟩
    case round=>
     obtain⟨p,k,N,i,s,C,rfl,rfl,rfl,bY,x,XS,YI,ZO,xS,rS,xI,rI,xO,rO,own,bW,bel⟩:=hrel
     have aF:=Stg.rnd_len x hl60
     have bU:=x.le
     obtain⟨po,co,rfl⟩:=X0b (X0a own)
     have zS:=X1h xS.blk
     have zI:=X1h xI.blk
     have zO:=X1h xO.blk
     have a0:=XH4 zS zI zO own
     obtain⟨_,_,_,ax,_⟩:=XFp rS
     obtain⟨⟨qo,qk,aT,_⟩,_⟩:=XG0 rO
     have cS:=XFe xS 11 _ ax
     have cO:=XFe xO 0 _ aT
     have an:=tabs_next hT.out bel
     have bZ:(k:Int)<2000:=by omega
     have bT:(([]:List (List Int)).length:Int)=0:=rfl
     replace x:=hid x
     replace xS:=hid xS
     replace rS:=hid rS
     replace xI:=hid xI
     replace rI:=hid rI
     replace xO:=hid xO
     replace rO:=hid rO
     replace own:=hid own
     replace bel:=hid bel
     replace a0:=hid a0
     replace an:=hid an
     clear ax aT av
     cases a5:s.shut with
     |
      true=>
      rw[a5] at cS
      obtain⟨bA,bC⟩:=Stg.XDN x.out a5
      subst bA bC
      have U:=rO.out
      rw[a5] at U
      have ao:=fun V W t r=>hAl kd V l W t (by omega) r ar.out ap.out
      have G:=fun W V r=>hSp (JA kS kI kO (.slice po (Mch.allM kd l).length co)) V ⟨[],true⟩ W ⟨by simp,by intro b h;cases h⟩ r
      have bE:Stg.X6T ⟨[],true⟩=true:=rfl
      rw[bE] at G
      obtain⟨A,hA⟩: ∃A,Mch.allM kd l=A:=⟨_,rfl⟩
      rw[hA] at own rI U ao G aF
      replace ao:=hid ao
      replace G:=hid G
      replace U:=hid U
      rw[hA]
      clear x hA rO a0
      have ac:=hid (X03 hv.out bel.out)
      go_wp2_with (refine ldX xI.out ?_)
      refine(G.out wr _ rI.out).mono ?_
      rintro e w6 ⟨rfl,q⟩
      replace xO:=hid (XFa xO.out q)
      replace U:=hid (X01 U.out q)
      replace own:=hid (X0x own.out q)
      replace bel:=hid (X05 bel.out q)
      replace ac:=hid (X03 ac.out q)
      clear q xI rI xS rS cS cO
      go_wp2_with (refine ldX xO.out ?_)
      refine(G.out w6 _ U.out).mono ?_
      rintro e w7 ⟨rfl,q⟩
      replace own:=hid (X0x own.out q)
      replace bel:=hid (X05 bel.out q)
      replace ac:=hid (X03 ac.out q)
      clear q xO U an
      go_wp2_with fail
      refine(ao.out _ w7 (tabs_next hT.out bel.out) ac.out).mono ?_
      rintro e w8 ⟨v8,rfl,r8,q⟩
      replace own:=hid (X0x own.out q)
      replace bel:=hid (X05 bel.out q)
      replace r8:=hid r8
      clear q ac
      go_wp2_with fail
      refine(X0t _ _ A w8 (by omega) (X0a own.out) r8.out).mono ?_
      rintro e w9 ⟨rfl,q⟩
      replace bel:=hid (X05 bel.out q)
      clear q
      go_wp2_with fail
      go_ret
      exact⟨rfl,bel.out⟩
     |
      false=>
      rw[a5] at cS
      have bX:=Stg.XDO x.out a5
      obtain⟨N',rfl⟩: ∃n,N=n+1:=⟨N - 1,by omega⟩
      have bV:IntKind.i64.wrap ((p:Int)+(size:Int))=(p:Int)+(size:Int):=by rw[IntKind.wrap_i64] <;> omega
      go_upto_if 62 with(fail)
      clear cS cO
      go_cut [14] (fun bn wx=>∃en:Nat,en=min (p+size) l.length∧bn= .int .i64 en∧wx=wr)
      case first=>
       by_cases aD:l.length<p+size
       ·have h1:(l.length:Int)<(p:Int)+(size:Int):=by omega
        go_wp2_with fail
        go_meet
        exact⟨l.length,by omega,rfl,rfl⟩
       ·have h1: ¬(l.length:Int)<(p:Int)+(size:Int):=by omega
        go_wp2_with fail
        go_meet
        exact⟨p+size,by omega,by simp,rfl⟩
      case rest=>
       obtain⟨en,aD,rfl,bf⟩:=hcut
       obtain rfl:wr=wc:=bf.symm
       have R:=hid aD
       clear bf aD
       have aE:=X1n x.out.ich
       have P:=fun V W h r=>hCl (JA kS kI kO (.slice po C.length co)) V i W h aE r
       replace P:=hid P
       obtain⟨⟨p2,i2⟩,a4⟩: ∃q,Stg.putN l p size i=q:=⟨_,rfl⟩
       replace a4:=hid a4
       go_upto_if 68 with(fail)
       go_cut [12,15,16] (fun bP bN bO wx=>∃YI2,bP= .int .i64 (p2:Nat)∧Bx Tryz.prog wx kI YI2 49∧RCh (JA kS kI kO (.slice po C.length co)) wx (.agg YI2) i2∧X4l (fun j=>j=kI) wr wx∧Below w.heap.size w wx)
       case first=>
        have m:=a4.out
        unfold Stg.putN at m
        by_cases hpl:p=l.length
        ·have h1:((p:Int) == (l.length:Int))=true:=by rw[hpl];simp
         have h2:(p:Int)=(l.length:Int):=by omega
         rw[if_pos hpl] at m
         obtain⟨rfl,rfl⟩:=Prod.mk.inj m
         clear m
         go_wp2_with (refine ldX xI.out ?_)
         refine(P.out _ wr a0.out rI.out).mono ?_
         rintro e w6 ⟨v6,rfl,r6,q⟩
         obtain⟨Y6,rfl,a1,a2,_⟩:=rch_x r6
         have y6:=wx_C a1 a2
         unfold TO16 at y6
         have ad:=XFa xI.out q
         replace y6:=hid y6
         replace r6:=hid r6
         replace ad:=hid ad
         have b6:=hid (X05 bel.out q)
         replace q:=hid q
         go_wp2_with (refine stX ad.out y6.out fun w7 p7=>?_)
         go_meet
         exact⟨Y6,by first | rfl | rw[hpl],XFg p7 y6.out,X0L r6.out (XFf p7 (.inl (.inr (.inl rfl)))),X1m (X1e q.out) p7.only,p7.below _ _ (by omega) b6.out⟩
        ·have h1:((p:Int) == (l.length:Int))=false:=beq_eq_false_iff_ne.2 (by omega)
         have h2: ¬(p:Int)=(l.length:Int):=by omega
         have bz:p<en:=by have:=R.out;omega
         have bx:en≤l.length:=by have:=R.out;omega
         rw[if_neg hpl] at m
         have aH:=X03 hv.out bel.out
         have ah:0<l.length:=by omega
         obtain⟨lb,D,rfl,_,_⟩:=ri_at aH ah
         obtain⟨_,aj⟩:=XH2 aH bz bx ah
         have aM:=XFG aI.out bel.out
         have az:=XFK (XFH aM p (by omega) ah) (en - p) (by rw[List.length_drop];omega)
         have aV:(l.drop p).take (en - p)=(l.drop p).take size:=by
          rcases Nat.le_total (p+size) l.length with h | h
          ·rw[show en - p=size by have:=R.out;omega]
          ·rw[List.take_of_length_le (by rw[List.length_drop];have:=R.out;omega),List.take_of_length_le (by rw[List.length_drop];omega)]
         rw[aV] at az
         have T:=fun K V VB W h r1 r2=>hPu K V i VB ((l.drop p).take size) W h aE (by rw[List.length_take];omega) r1 r2
         obtain⟨⟨c2,ok⟩,hq⟩: ∃q,Stg.putC i ((l.drop p).take size)=q:=⟨_,rfl⟩
         rw[hq] at T m
         dsimp only at T m
         replace m:=hid m
         obtain⟨KV,af⟩: ∃K:Nat→Prop,K=JA kS kI kO (.slice po C.length co):=⟨_,rfl⟩
         have am:=a0.out
         have aJ:=rI.out
         rw[←af] at am aJ
         have aw:=hid af
         have aA:KV kI:=by rw[af];exact .inl (.inr (.inl rfl))
         have aR: ∀j,KV j→w.heap.size≤j:=fun j h=>by
          rw[af] at h
          rcases h with(h | h | h) | h
          ·omega
          ·omega
          ·omega
          ·have:=XzW own.out j h;omega
         clear rI
         have rI:=hid aJ
         have rB:=hid (X49 az (fun j _ h=>aR j h))
         replace T:=hid T
         replace aj:=hid aj
         replace am:=hid am
         replace aA:=hid aA
         clear af aR aJ aM az aH hq aV P a0 rS rO own xS xO
         rw[h1]
         go_upto_region 17 with(fail)
         replace xI:=hid (XFa xI.out (Below.refl _ _).drew)
         replace rI:=hid (X01 rI.out (Below.refl _ _).drew)
         replace rB:=hid (XFG rB.out (Below.refl _ _).drew)
         refine RgA.XGu (S:=fun _=>True) (J0:=fun _=>False) (X:= [0,1,2,3,4,5,6,7,9]) (Y:= [8]) (A:= [9]) (F:=fun fk KJ v wz=>match fk with | 0=>v= .agg YI | 1=>v= .slice (some ⟨lb,D,none⟩) l.length B | 2=>v= .int .i64 p | 3=>v= .int .i64 en | 4=>v= .slice (some ⟨lb,D+p,none⟩) (en - p) (B - p) | 5=>FB (fun j=>KV j∨KJ j) (c2,ok) v wz | 6=>FB (fun j=>KV j∨KJ j) (c2,ok) v wz | 7=>RCh (fun j=>KV j∨KJ j) wz v c2 | 8=>v= .bool ok | 9=>FPx Tryz.prog wr.heap.size zeroC 49 v wz | _=>True) _ (fun _ _=>trivial) (by kernel_rfl) (by kernel_rfl) (by kernel_rfl) (by decide) (fun c a d v wz h=>by cases d <;> exact h) (fun _ h=>h.elim) ?stable ?fresh ?self ?step ?pure ?fin
         case stable=>
          intro k KJ v wz ci h hb
          match k,h with
          | 0,h=>exact h
          | 1,h=>exact h
          | 2,h=>exact h
          | 3,h=>exact h
          | 4,h=>exact h
          | 5,h=>exact XGt h hb
          | 6,h=>exact XGt h hb
          | 7,h=>exact X01 h hb
          | 8,h=>exact h
          | 9,h=>exact XFX h hb
          | _+10,h=>trivial
         case fresh=>
          intro k KJ v wz p h hp
          match k,h with
          | 0,h=>exact h
          | 1,h=>exact h
          | 2,h=>exact h
          | 3,h=>exact h
          | 4,h=>exact h
          | 5,h=>exact XH1 h hp
          | 6,h=>exact XH1 h hp
          | 7,h=>exact XGZ h hp
          | 8,h=>exact h
          | 9,h=>exact h
          | _+10,h=>trivial
         case self=>
          intro k hk J1 J2 v wz h
          simp only[List.mem_cons,List.not_mem_nil,or_false] at hk
          subst hk
          exact h
         case step=>
          simp only[List.cons_append,List.nil_append]
          refine RgA.Steps.cons (o:=⟨_,_,_,_,_,_⟩) rfl ?_ (RgA.Steps.cons (o:=⟨_,_,_,_,_,_⟩) rfl ?_ (RgA.Steps.cons (o:=⟨_,_,_,_,_,_⟩) rfl ?_ (RgA.Steps.cons (o:=⟨_,_,_,_,_,_⟩) rfl ?_ (RgA.Steps.cons (o:=⟨_,_,_,_,_,_⟩) rfl ?_ (RgA.Steps.cons (o:=⟨_,_,_,_,_,_⟩) rfl ?_ (RgA.Steps.cons (o:=⟨_,_,_,_,_,_⟩) rfl ?_ (RgA.Steps.cons (o:=⟨_,_,_,_,_,_⟩) rfl ?_ (RgA.Steps.cons (o:=⟨_,_,_,_,_,_⟩) rfl ?_ (RgA.Steps.cons (o:=⟨_,_,_,_,_,_⟩) rfl ?_ RgA.Steps.nil)))))))))
          ·intro y wz KJ E I z hd K' hK
           rw[RgA.X0q _ [(0,72),(1,73),(2,74),(3,75),(4,76),(5,77),(6,71),(7,78),(9,15),(8,79)] (by kernel_rfl)] at hK ⊢
           simp only[RgA.mkL,List.foldl_cons,List.foldl_nil,List.setIfInBounds_toArray,List.set_cons_succ,List.set_cons_zero] at hK ⊢
           refine atL (XFa xI.out z) ?_
           have H:=hK.out (.agg YI) wz (rfl) (Below.refl _ _) (fun h=>by simp at h)
           simp only[Act.put,List.setIfInBounds_toArray,List.set_cons_succ,List.set_cons_zero] at H
           exact H
          ·intro y wz KJ E I z hd K' hK
           rw[RgA.X0q _ [(0,72),(1,73),(2,74),(3,75),(4,76),(5,77),(6,71),(7,78),(9,15),(8,79)] (by kernel_rfl)] at hK ⊢
           simp only[RgA.mkL,List.foldl_cons,List.foldl_nil,List.setIfInBounds_toArray,List.set_cons_succ,List.set_cons_zero] at hK ⊢
           go_simp
           have H:=hK.out (.slice (some ⟨lb,D,none⟩) l.length B) wz (rfl) (Below.refl _ _) (fun h=>by simp at h)
           simp only[Act.put,List.setIfInBounds_toArray,List.set_cons_succ,List.set_cons_zero] at H
           exact H
          ·intro y wz KJ E I z hd K' hK
           rw[RgA.X0q _ [(0,72),(1,73),(2,74),(3,75),(4,76),(5,77),(6,71),(7,78),(9,15),(8,79)] (by kernel_rfl)] at hK ⊢
           simp only[RgA.mkL,List.foldl_cons,List.foldl_nil,List.setIfInBounds_toArray,List.set_cons_succ,List.set_cons_zero] at hK ⊢
           go_simp
           have H:=hK.out (.int .i64 p) wz (rfl) (Below.refl _ _) (fun h=>by simp at h)
           simp only[Act.put,List.setIfInBounds_toArray,List.set_cons_succ,List.set_cons_zero] at H
           exact H
          ·intro y wz KJ E I z hd K' hK
           rw[RgA.X0q _ [(0,72),(1,73),(2,74),(3,75),(4,76),(5,77),(6,71),(7,78),(9,15),(8,79)] (by kernel_rfl)] at hK ⊢
           simp only[RgA.mkL,List.foldl_cons,List.foldl_nil,List.setIfInBounds_toArray,List.set_cons_succ,List.set_cons_zero] at hK ⊢
           go_simp
           have H:=hK.out (.int .i64 en) wz (rfl) (Below.refl _ _) (fun h=>by simp at h)
           simp only[Act.put,List.setIfInBounds_toArray,List.set_cons_succ,List.set_cons_zero] at H
           exact H
          ·intro y wz KJ E I z hd K' hK
           have d1:(y 1)= .slice (some ⟨lb,D,none⟩) l.length B:=hd 1 (by kernel_rfl)
           have d2:(y 2)= .int .i64 p:=hd 2 (by kernel_rfl)
           have d3:(y 3)= .int .i64 en:=hd 3 (by kernel_rfl)
           rw[RgA.X0q _ [(0,72),(1,73),(2,74),(3,75),(4,76),(5,77),(6,71),(7,78),(9,15),(8,79)] (by kernel_rfl)] at hK ⊢
           simp only[RgA.mkL,List.foldl_cons,List.foldl_nil,List.setIfInBounds_toArray,List.set_cons_succ,List.set_cons_zero] at hK ⊢
           rw[d1,d2,d3] at hK ⊢
           refine atO (aj.out _ _ _ _ _ _ _ _ _ wz rfl rfl rfl) ?_
           have H:=hK.out (.slice (some ⟨lb,D+p,none⟩) (en - p) (B - p)) wz (rfl) (Below.refl _ _) (fun h=>by simp at h)
           simp only[Act.put,List.setIfInBounds_toArray,List.set_cons_succ,List.set_cons_zero] at H
           exact H
          ·intro y wz KJ E I z hd K' hK
           have d0:(y 0)= .agg YI:=hd 0 (by kernel_rfl)
           have d4:(y 4)= .slice (some ⟨lb,D+p,none⟩) (en - p) (B - p):=hd 4 (by kernel_rfl)
           rw[RgA.X0q _ [(0,72),(1,73),(2,74),(3,75),(4,76),(5,77),(6,71),(7,78),(9,15),(8,79)] (by kernel_rfl)] at hK ⊢
           simp only[RgA.mkL,List.foldl_cons,List.foldl_nil,List.setIfInBounds_toArray,List.set_cons_succ,List.set_cons_zero] at hK ⊢
           rw[d0,d4] at hK ⊢
           go_simp
           refine(T.out (fun j=>KV j∨KJ j) _ _ wz (fun j hj=>hj.elim (fun h=>Nat.lt_of_lt_of_le (am.out j h) z.size) (fun h=>(E j h).1)) (X01 (XFA (K:=fun j=>KV j∨KJ j) rI.out (fun j hj=>hj.elim .inl fun h=> .inr ((E j h).2.elim (fun h=>h.elim) id))) z) (XFG (XFz (K:=fun j=>KV j∨KJ j) rB.out (fun j hj=>hj.elim .inl fun h=> .inr ((E j h).2.elim (fun h=>h.elim) id))) z)).mono ?_
           rintro e w1 ⟨v1,rfl,rz,q⟩
           go_wp2_with fail
           have H:=hK.out (.tuple #[v1, .bool ok]) w1 (⟨v1,rfl,rz⟩) (q) (fun h=>by simp at h)
           simp only[Act.put,List.setIfInBounds_toArray,List.set_cons_succ,List.set_cons_zero] at H
           exact H
          ·intro y wz KJ E I z hd K' hK
           have d5:FB (fun j=>KV j∨KJ j) (c2,ok) (y 5) wz:=hd 5 (by kernel_rfl)
           rw[RgA.X0q _ [(0,72),(1,73),(2,74),(3,75),(4,76),(5,77),(6,71),(7,78),(9,15),(8,79)] (by kernel_rfl)] at hK ⊢
           simp only[RgA.mkL,List.foldl_cons,List.foldl_nil,List.setIfInBounds_toArray,List.set_cons_succ,List.set_cons_zero] at hK ⊢
           go_simp
           have H:=hK.out (y 5) wz (d5) (Below.refl _ _) (fun h=>by simp at h)
           simp only[Act.put,List.setIfInBounds_toArray,List.set_cons_succ,List.set_cons_zero] at H
           exact H
          ·intro y wz KJ E I z hd K' hK
           have d6:FB (fun j=>KV j∨KJ j) (c2,ok) (y 6) wz:=hd 6 (by kernel_rfl)
           rw[RgA.X0q _ [(0,72),(1,73),(2,74),(3,75),(4,76),(5,77),(6,71),(7,78),(9,15),(8,79)] (by kernel_rfl)] at hK ⊢
           simp only[RgA.mkL,List.foldl_cons,List.foldl_nil,List.setIfInBounds_toArray,List.set_cons_succ,List.set_cons_zero] at hK ⊢
           obtain⟨vz,eP,rz⟩:=d6
           try dsimp only at eP rz
           rw[eP] at hK ⊢
           clear eP
           go_simp
           have H:=hK.out (vz) wz (rz) (Below.refl _ _) (fun h=>by simp at h)
           simp only[Act.put,List.setIfInBounds_toArray,List.set_cons_succ,List.set_cons_zero] at H
           exact H
          ·intro y wz KJ E I z hd K' hK
           rw[RgA.X0q _ [(0,72),(1,73),(2,74),(3,75),(4,76),(5,77),(6,71),(7,78),(9,15),(8,79)] (by kernel_rfl)] at hK ⊢
           simp only[RgA.mkL,List.foldl_cons,List.foldl_nil,List.setIfInBounds_toArray,List.set_cons_succ,List.set_cons_zero] at hK ⊢
           go_simp
           have H:=hK.out (.pointer (some ⟨wz.heap.size,0,none⟩)) (wz.alloc (.cells zeroC 49)) (⟨_,rfl,z.size,XFb wz_C wz⟩) (X04 wz _) (fun _=>XFZ wz _)
           simp only[Act.put,List.setIfInBounds_toArray,List.set_cons_succ,List.set_cons_zero] at H
           exact H
          ·intro y wz KJ E I z hd K' hK
           have d6:FB (fun j=>KV j∨KJ j) (c2,ok) (y 6) wz:=hd 6 (by kernel_rfl)
           rw[RgA.X0q _ [(0,72),(1,73),(2,74),(3,75),(4,76),(5,77),(6,71),(7,78),(9,15),(8,79)] (by kernel_rfl)] at hK ⊢
           simp only[RgA.mkL,List.foldl_cons,List.foldl_nil,List.setIfInBounds_toArray,List.set_cons_succ,List.set_cons_zero] at hK ⊢
           obtain⟨vz,eP,rz⟩:=d6
           try dsimp only at eP rz
           rw[eP] at hK ⊢
           clear eP
           go_simp
           have H:=hK.out (.bool ok) wz (rfl) (Below.refl _ _) (fun h=>by simp at h)
           simp only[Act.put,List.setIfInBounds_toArray,List.set_cons_succ,List.set_cons_zero] at H
           exact H
         case pure=>
          refine RgA.Pures.cons rfl ?_ RgA.Pures.nil
          ·intro y wz KJ hd
           have d6:FB (fun j=>KV j∨KJ j) (c2,ok) (y 6) wz:=hd 6 (by kernel_rfl)
           obtain⟨vz,eP,rz⟩:=d6
           try dsimp only at eP rz
           refine⟨.bool ok,rfl,?_⟩
           rw[RgA.X0q _ [(0,72),(1,73),(2,74),(3,75),(4,76),(5,77),(6,71),(7,78),(9,15),(8,79)] (by kernel_rfl)]
           simp only[RgA.mkL,List.foldl_cons,List.foldl_nil,List.setIfInBounds_toArray,List.set_cons_succ,List.set_cons_zero]
           rw[eP]
           refine⟨by kernel_rfl,fun w'=>?_⟩
           go_simp
         intro y wy aB KJ _ aO _ hF _
         have d0:(y 0)= .agg YI:=hF 0 (by decide)
         have d1:(y 1)= .slice (some ⟨lb,D,none⟩) l.length B:=hF 1 (by decide)
         have d2:(y 2)= .int .i64 p:=hF 2 (by decide)
         have d3:(y 3)= .int .i64 en:=hF 3 (by decide)
         have d4:(y 4)= .slice (some ⟨lb,D+p,none⟩) (en - p) (B - p):=hF 4 (by decide)
         have d5:FB (fun j=>KV j∨KJ j) (c2,ok) (y 5) wy:=hF 5 (by decide)
         have d6:FB (fun j=>KV j∨KJ j) (c2,ok) (y 6) wy:=hF 6 (by decide)
         have d7:RCh (fun j=>KV j∨KJ j) wy (y 7) c2:=hF 7 (by decide)
         have d8:(y 8)= .bool ok:=hF 8 (by decide)
         have d9:FPx Tryz.prog wr.heap.size zeroC 49 (y 9) wy:=hF 9 (by decide)
         rw[RgA.X0q _ [(0,72),(1,73),(2,74),(3,75),(4,76),(5,77),(6,71),(7,78),(9,15),(8,79)] (by kernel_rfl)]
         simp only[RgA.mkL,List.foldl_cons,List.foldl_nil,List.setIfInBounds_toArray,List.set_cons_succ,List.set_cons_zero]
         obtain⟨pn,e9,a4,xn⟩:=d9
         obtain⟨YN,e7,a1,a2,_⟩:=rch_x d7
         have j9:=aO 9 (by decide) pn e9
         rw[e7] at d7
         rw[d0,d1,d2,d3,d4,e7,d8,e9]
         generalize y 5=y5
         generalize y 6=y6
         have vn:=wx_C a1 a2
         unfold TO16 at vn
         have aU:Below wr.heap.size wr wy:=X05 (Below.refl _ _).drew aB
         replace xI:=XFa xI.out aB
         have c6:kI<wr.heap.size:=zI
         clear d0 d1 d2 d3 d4 d5 d6 d8 e7 e9 rI rB aB
         refine' tkS 10 rfl xn vn (fun w6 p6=>?_)
         refine⟨trivial,?_⟩
         have r7:=X0Q (K:=KV) (X0L d7 (XFf (J:=fun j=>KV j∨KJ j) p6 (.inr j9))) (fun _ _ h=> .inl h)
         have b9:wr.heap.size≤pn:=a4
         have bD:kI≠pn:=by omega
         have ad:=hid (XFh xI p6 bD)
         have bs:=hid (XFg p6 vn)
         have aC:=hid (p6.below _ _ b9 aU)
         replace r7:=hid r7
         replace vn:=hid vn
         clear p6 d7 xn xI aU j9 a4 aO hF
         refine' tk 11 rfl trivial ?_
         try simp only[putA]
         refine wpAnyH_done (by kernel_rfl) ?_ _
         go_upto_region 19 with(first | refine ldX bs.out ?_ | refine stX ad.out vn.out fun w7 p7=>?_)
         have r8:=X0L r7.out (XFf (J:=KV) p7 aA.out)
         have au:X4l (fun j=>j=kI) wr w7:=X1m (X1e aC.out) p7.only
         have b8:=p7.below _ _ (show w.heap.size≤kI by omega) (X05 bel.out aC.out)
         have x8:=XFg p7 vn.out
         replace r8:=hid r8
         replace au:=hid au
         replace b8:=hid b8
         replace x8:=hid x8
         clear p7 r7 ad bs aC
         cases ok with
         |
          true=>
          have a3:=m.out
          rw[if_pos rfl] at a3
          obtain⟨rfl,rfl⟩:=Prod.mk.inj a3
          clear a3
          go_wp2_with fail
          go_meet
          exact⟨YN,by rw[R.out],x8.out,aw.out ▸ r8.out,au.out,b8.out⟩
         |
          false=>
          have a3:=m.out
          rw[if_neg (by simp)] at a3
          obtain⟨rfl,rfl⟩:=Prod.mk.inj a3
          clear a3
          go_wp2_with fail
          go_meet
          exact⟨YN,rfl,x8.out,aw.out ▸ r8.out,au.out,b8.out⟩
       case rest=>
        obtain⟨YI2,rfl,bo,bk,a9,ae⟩:=hcut
        have bb:=Stg.XEB x.out bd be
        rw[a4.out] at bb
        obtain⟨aa,aG⟩:=bb
        dsimp only at aa aG
        have ai:=Stg.XDM aa aG a5
        have bc:=Stg.rnd_small aa
        have aX:=X1n aa.ich
        have ay:=Stg.rnd_wf aa ar.out
        have aW:(⟨[],false⟩:Ch).Few:=⟨by simp,by intro b h;cases h⟩
        have aq:=(Stg.X6c s i2 ⟨[],false⟩).2.2.1
        have c9:wr.heap.size≤wc.heap.size:=a9.1
        have aK:=rO.out
        rw[a5] at aK
        have br:=XGw xS.out a9 (by omega)
        have bp:=XGw xO.out a9 (by omega)
        have uI:X4l (JA kS kI kO (.slice po C.length co)) wr wc:=XGx a9 (fun j e=> .inl (.inr (.inl e)))
        have bm:=X3f rS.out uI
        have bl:=X0L aK uI
        have ak:=XA8 own.out a9 (Xe4 own.out (show kI<w5.heap.size by omega)).symm
        have aS:=tabs_next hT.out ae
        have aP:=XH4 (kS:=kS) (kI:=kI) (kO:=kO) (by omega) (by omega) (by omega) ak
        have a6:=hP _ _ s _ i2 _ ⟨[],false⟩ wc aS aP bc aX aW ay bm bk bl
        obtain⟨⟨t,i3,o3,ok⟩,hq⟩: ∃q,Stg.stepS s i2 ⟨[],false⟩=q:=⟨_,rfl⟩
        rw[hq] at a6 ai aq
        unfold XeD at a6
        dsimp only at a6 ai aq
        have ab:=fun V W h r=>hTk (JA kS kI kO (.slice po C.length co)) V o3 W h (X1n aq) r
        obtain⟨⟨o4,b4,ob⟩,ba⟩: ∃q,Stg.takeC o3=q:=⟨_,rfl⟩
        rw[ba] at ab ai
        dsimp only at ab ai
        obtain⟨a8,rfl⟩:=ai
        have aY:=Stg.rnd_len a8 hl60
        rw[List.length_append] at aY
        clear hq ba aa aG bc aX ay aW aq aK rO xS rS xO xI rI own a9 uI aS aP bel an a0 P aE bk bm bl x
        have xS:=hid br
        have xO:=hid bp
        have xI:=hid bo
        have own:=hid ak
        have bel:=hid ae
        replace a6:=hid a6
        replace ab:=hid ab
        replace a8:=hid a8
        clear br bp bo ak ae
        go_wp2_with (first | refine ldX xS.out ?_ | refine ldX xI.out ?_ | refine ldX xO.out ?_)
        refine a6.out.mono ?_
        rintro e w6 ⟨vs,vi,vo,rfl,ru,rv,O,q⟩
        obtain⟨X7,rfl,a1,a2⟩:=rs_x ru
        obtain⟨Y7,rfl,b1,b2,_⟩:=rch_x rv
        obtain⟨Z7,rfl,g1,g2,_⟩:=rch_x O
        have v7:=wx_S a1 a2
        have u7:=wx_C b1 b2
        have z7:=wx_C g1 g2
        obtain⟨_,rfl,y0,y1,y2,b3⟩:=three (w:=w6) wz_S wz_C wz_C
        unfold TO17 TO16 zeroS zeroC at *
        replace ru:=hid ru
        replace rv:=hid rv
        replace O:=hid O
        replace v7:=hid v7
        replace u7:=hid u7
        replace z7:=hid z7
        replace y0:=hid y0
        replace y1:=hid y1
        replace y2:=hid y2
        replace b3:=hid b3
        have c3:wc.heap.size≤w6.heap.size:=q.size
        replace xS:=hid (XFa xS.out q)
        replace xI:=hid (XFa xI.out q)
        replace xO:=hid (XFa xO.out q)
        replace own:=hid (X0x own.out q)
        replace bel:=hid (X05 bel.out q)
        clear q a1 a2 b1 b2 g1 g2 a6
        go_upto_region 22 with(first | (refine stX y0.out v7.out fun wa pa=>?_) | (refine stX (XFh y1.out pa (by omega)) u7.out fun wb pb=>?_) | (refine stX (XFh (XFh y2.out pa (by omega)) pb (by omega)) z7.out fun wd pc=>?_))
        have q:=pc.below _ _ (by omega) (pb.below _ _ (by omega) (pa.below _ _ (Nat.le_refl _) b3.out))
        have yu:=hid (XFh (XFh (XFg pa v7.out) pb (by omega)) pc (by omega))
        have yv:=hid (XFh (XFg pb u7.out) pc (by omega))
        have yw:=hid (XFg pc z7.out)
        replace xS:=hid (XFa xS.out q)
        replace xI:=hid (XFa xI.out q)
        replace xO:=hid (XFa xO.out q)
        replace own:=hid (X0x own.out q)
        replace bel:=hid (X05 bel.out q)
        replace ru:=hid (X08 ru.out q)
        replace rv:=hid (X01 rv.out q)
        replace O:=hid (X01 O.out q)
        have c7:w6.heap.size≤wd.heap.size:=q.size
        clear q pa pb pc y0 y1 y2 b3
        go_upto_region 24 with(first | refine ldX yu.out ?_ | (refine stX xS.out v7.out fun we pd=>?_) | refine ldX (XFh yv.out pd (by omega)) ?_ | (refine stX (XFh xI.out pd (by omega)) u7.out fun wf pe=>?_))
        have u:X4l (JA kS kI kO (.slice po C.length co)) wd wf:=X1m (XFf pd (.inl (.inl rfl))) (XFf pe (.inl (.inr (.inl rfl))))
        have u2:X4l (fun j=>j=kS∨j=kI) wd wf:=X1m (XFf pd (.inl rfl)) (XFf pe (.inr rfl))
        replace xS:=hid (XFh (XFg pd v7.out) pe (by omega))
        replace xI:=hid (XFg pe u7.out)
        replace xO:=hid (XFh (XFh xO.out pd (by omega)) pe (by omega))
        replace yw:=hid (XFh (XFh yw.out pd (by omega)) pe (by omega))
        replace ru:=hid (X3f ru.out u)
        replace rv:=hid (X0L rv.out u)
        replace O:=hid (X0L O.out u)
        replace own:=hid (Xnj own.out u2 (fun j hj=>by rcases hj with rfl | rfl <;> exact(Xe4 own.out (by omega)).symm))
        replace bel:=hid (pe.below _ _ (by omega) (pd.below _ _ (by omega) bel.out))
        have c8:wd.heap.size≤wf.heap.size:=by have:=pd.size;have:=pe.size;omega
        have aQ:=hid (XH4 (kS:=kS) (kI:=kI) (kO:=kO) (show kS<wf.heap.size by omega) (by omega) (by omega) own.out)
        clear u u2 pd pe yu yv
        go_wp2_with (refine ldX yw.out ?_)
        refine(ab.out _ wf aQ.out O.out).mono ?_
        rintro e w8 ⟨v8,vb,rfl,r8,rb,q⟩
        dsimp only at r8 rb ⊢
        obtain⟨Y8,rfl,a1,a2,_⟩:=rch_x r8
        obtain⟨pb,cb,rfl⟩:=X0b rb.1
        have v8:=wx_C a1 a2
        unfold TO16 at v8
        replace v8:=hid v8
        replace r8:=hid r8
        replace rb:=hid rb
        replace xS:=hid (XFa xS.out q)
        replace xI:=hid (XFa xI.out q)
        replace xO:=hid (XFa xO.out q)
        replace own:=hid (X0x own.out q)
        replace bel:=hid (X05 bel.out q)
        replace ru:=hid (X08 ru.out q)
        replace rv:=hid (X01 rv.out q)
        have c4:wf.heap.size≤w8.heap.size:=q.size
        clear q a1 a2 yw O aQ ab
        go_upto_region 25 with(refine stX (XFb vc.out w8) v8.out fun w9 p9=>?_)
        have q:=p9.below _ _ (Nat.le_refl _) (X04 w8 _)
        have xd:=hid (XFg p9 v8.out)
        replace xS:=hid (XFa xS.out q)
        replace xI:=hid (XFa xI.out q)
        replace xO:=hid (XFa xO.out q)
        replace own:=hid (X0x own.out q)
        replace bel:=hid (X05 bel.out q)
        replace ru:=hid (X08 ru.out q)
        replace rv:=hid (X01 rv.out q)
        replace r8:=hid (X01 r8.out q)
        replace rb:=hid (XFG rb.out q)
        have c5:w8.heap.size≤w9.heap.size:=q.size
        clear q p9
        go_upto_region 26 with(first | refine ldX xd.out ?_ | (refine stX xO.out v8.out fun wg pg=>?_))
        have u:=XFf (J:=JA kS kI kO (.slice po C.length co)) pg (.inl (.inr (.inr rfl)))
        replace xS:=hid (XFh xS.out pg (by omega))
        replace xI:=hid (XFh xI.out pg (by omega))
        replace xO:=hid (XFg pg v8.out)
        replace ru:=hid (X3f ru.out u)
        replace rv:=hid (X0L rv.out u)
        replace r8:=hid (X0L r8.out u)
        have sb:=hid (X0Y (X4o rb.out u).1)
        replace own:=hid (XA8 own.out pg.only (Xe4 own.out (by omega)).symm)
        replace bel:=hid (pg.below _ _ (by omega) bel.out)
        have bi:=hid (show w5.heap.size≤wg.heap.size by have:=pg.size;omega)
        have bj:=hid (show w.heap.size≤wg.heap.size by have:=pg.size;omega)
        have nS:=hid (Xe4 own.out (show kS<w5.heap.size by omega)).symm
        have nI:=hid (Xe4 own.out (show kI<w5.heap.size by omega)).symm
        have nO:=hid (Xe4 own.out (show kO<w5.heap.size by omega)).symm
        have bt:=hid (show C.length+b4.length≤maxLen by unfold maxLen;omega)
        have bu:=hid (show (C.length+b4.length) *8≤140737488355328 by omega)
        have aN:=hid bv
        clear u pg xd rb
        go_wp2_with (at_builtin;refine X1i rfl _ _ 24 rfl w5.heap.size 3 i0 (.int .i64 0) 8 Tryz.underlying24 bB bG bH bI rfl _ _ _ rfl own.out _ _ rfl sb.out (X0u b4) (by rw[List.length_map];exact bt.out) (by rw[List.length_map];exact bu.out) bi.out ?_;intro vx wx ag f L;have ox:=hid (X0i (l:=C++b4) ag (by simp) (by simp));have bS:=hid (XGy xS.out f nS.out);have bQ:=hid (XGy xI.out f nI.out);have bR:=hid (XGy xO.out f nO.out);have bL:=hid (XH5 (K:=fun j=>j=kS∨j=kI∨j=kO) ru.out f L);have bM:=hid (XH0 (K:=fun j=>j=kS∨j=kI∨j=kO) rv.out f L);have bK:=hid (XH0 (K:=fun j=>j=kS∨j=kI∨j=kO) r8.out f L);have gx:=hid (Nat.le_trans bi.out f.size);have aL:=hid (X0k bel.out f bj.out own.out aN.out);clear ag f L)
        go_roundg (2000 - (k+1))
        case measure=>omega
        case rel=>exact⟨p2,k+1,N',i3,t,C++b4,rfl,by go_num,rfl,by omega,a8.out,X7,Y7,Y8,bS.out,bL.out,bQ.out,bM.out,bR.out,bK.out,ox.out,gx.out,aL.out⟩
 ·have c1:(60:Int)<(l.length:Int):=by omega
  go_wp2_with fail
  go_ret
  exact⟨rfl,bq.out⟩
end Go.Proofs.YtkofnpkopbnocaaGreatDoor
