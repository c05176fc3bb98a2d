import Derived.Test.YtkofnpkopbnocaaGreatDoorStVk
import Derived.Test.YtkofnpkopbnocaaGreatDoorStBk
import Derived.Test.YtkofnpkopbnocaaGreatDoorStMk
import Derived.Test.YtkofnpkopbnocaaGreatDoorChPk
set_option maxRecDepth 100000
set_option maxHeartbeats 25600000
namespace Go.Proofs.YtkofnpkopbnocaaGreatDoor
set_option linter.unusedSimpArgs false
set_option linter.unusedVariables false
open Go Go.RowKit Go.Lib
open Mch (MS)
open Stg (Ch St)
theorem XGY{ev:Operand→Value}{x0 x1:Operand}{d:Option Tmp}{ty:TypeId}{po:String}{af:Array Edge}{gd:Option (Nat × Bool)}{p:Option Addr}{n c:Nat}{b:Bool}(w:World)(h0:ev x0= .slice p n c:=by rfl)(h1:ev x1= .bool b:=by rfl):
 (execOp ev ⟨d, .build TR16 #[(0,x0),(1,x1)],ty,po,af,gd⟩).run Tryz.prog w= .ok (.value (.agg #[.slice p n c, .bool b])) w:=by
 unfold execOp
 simp only[List.map_toArray,List.map_cons,List.map_nil,h0,h1]
 kernel_rfl
theorem XGX{ev:Operand→Value}{d:Option Tmp}{ty:TypeId}{po:String}{af:Array Edge}{gd:Option (Nat × Bool)}(w:World):
 (execOp ev ⟨d, .build TO16 #[],ty,po,af,gd⟩).run Tryz.prog w= .ok (.value (.agg zeroC)) w:=by
 unfold execOp
 kernel_rfl
theorem stageOthers_walk(hN:NewC17)(hS:SaneC17)(hP:StepC17)(hK:CostC17)(hD:SaneC16)(hCn:CountC16)(v:Value)(s:St)(vi:Value)(i:Ch)(vo:Value)(o:Ch)(w:World)(hT:Tabs w)(hv:RS N0 w v s∧I64 s.m.kind)(hi:RCh N0 w vi i∧i.Wf∧i.L.length≤maxLen)(ho:RCh N0 w vo o∧o.Wf∧o.L.length≤maxLen):
 Calls Tryz.prog 8 #[v,vi,vo] w fun e w'=>e= .returned (.bool true)∧Below w.heap.size w w':=by
 obtain⟨rs,b6⟩:=hv
 obtain⟨ri,aW,ba⟩:=hi
 obtain⟨ro,bo,bb⟩:=ho
 have b5:=hid (fun W h=>X5R hN hP hK W h)
 have aH:=fun W h1 h2 h3=>X8w N0 N0 N0 v s vi i vo o W ba bb h1 h2 h3
 obtain⟨F,hF⟩: ∃F,(fewS s && fewC i && fewC o)=F:=⟨_,rfl⟩
 rw[hF] at aH
 replace aH:=hid aH
 replace hF:=hid hF
 obtain⟨X,rfl,bh,bi⟩:=rs_x rs
 obtain⟨Y,rfl,ao,bk,_⟩:=rch_x ri
 obtain⟨Z,rfl,bl,bm,_⟩:=rch_x ro
 obtain⟨W,hW,x0,x1,x2,bq⟩:=three (w:=w) (vx_S bh bi) (vx_C ao bk) (vx_C bl bm)
 unfold TR17 TR16 at *
 replace rs:=X08 rs bq
 replace ri:=X01 ri bq
 replace ro:=X01 ro bq
 replace hT:=tabs_next hT bq
 clear bh bi ao bk bl bm
 replace hW:=hid hW
 replace x0:=hid x0
 replace x1:=hid x1
 replace x2:=hid x2
 replace bq:=hid bq
 replace rs:=hid rs
 replace ri:=hid ri
 replace ro:=hid ro
 replace hT:=hid hT
 replace b6:=hid b6
 replace aW:=hid aW
 replace bo:=hid bo
 replace ba:=hid ba
 replace bb:=hid bb
 go_enter Tryz.func8,Tryz.ntmps8
 go_upto_region 1 with(fail)
 rw[hW.out]
 go_wp2_with fail
 refine(b5.out W hT.out).mono ?_
 rintro e w2 ⟨rfl,q2⟩
 replace hT:=hid (tabs_next hT.out q2)
 replace rs:=hid (X08 rs.out q2)
 replace ri:=hid (X01 ri.out q2)
 replace ro:=hid (X01 ro.out q2)
 replace x0:=hid (XFa x0.out q2)
 replace x1:=hid (XFa x1.out q2)
 replace x2:=hid (XFa x2.out q2)
 replace bq:=hid (X05 bq.out q2)
 clear q2
 go_wp2_with (first | refine ldX x0.out ?_ | refine ldX x1.out ?_ | refine ldX x2.out ?_)
 refine(aH.out w2 rs.out ri.out ro.out).mono ?_
 rintro e w3 ⟨rfl,q3⟩
 replace hT:=hid (tabs_next hT.out q3)
 replace rs:=hid (X08 rs.out q3)
 replace ri:=hid (X01 ri.out q3)
 replace ro:=hid (X01 ro.out q3)
 replace x0:=hid (XFa x0.out q3)
 replace x1:=hid (XFa x1.out q3)
 replace x2:=hid (XFa x2.out q3)
 replace bq:=hid (X05 bq.out q3)
 clear q3
 rcases F with _ | _
 ·skip
  go_wp2_with fail
  go_ret
  exact⟨rfl,bq.out⟩
 ·skip
  have aR:=hF.out
  simp only[Bool.and_eq_true] at aR
  have aC:=X3x aR.1.1 b6.out
  have av:=(X1S aR.1.2).1
  have aV:=(X1S aR.2).1
  clear hF aR
  replace aC:=hid aC
  replace av:=hid av
  replace aV:=hid aV
  have al:=fun V Wz t r=>hS N0 V s Wz t aC.out r
  obtain⟨B1,b0⟩: ∃B,Stg.saneS s=B:=⟨_,rfl⟩
  rw[b0] at al
  have am:=fun V Wz r=>hD N0 V i Wz av.out r
  obtain⟨B2,b3⟩: ∃B,Stg.saneC i=B:=⟨_,rfl⟩
  rw[b3] at am
  have an:=fun V Wz r=>hD N0 V o Wz aV.out r
  obtain⟨B3,b4⟩: ∃B,Stg.saneC o=B:=⟨_,rfl⟩
  rw[b4] at an
  replace al:=hid al
  replace b0:=hid b0
  replace am:=hid am
  replace b3:=hid b3
  replace an:=hid an
  replace b4:=hid b4
  go_wp2_with (first | refine ldX x0.out ?_ | refine ldX x1.out ?_ | refine ldX x2.out ?_)
  refine(X4j rs.out).mono ?_
  rintro e w4 ⟨rfl,q4⟩
  replace hT:=hid (tabs_next hT.out q4)
  replace rs:=hid (X08 rs.out q4)
  replace ri:=hid (X01 ri.out q4)
  replace ro:=hid (X01 ro.out q4)
  replace x0:=hid (XFa x0.out q4)
  replace x1:=hid (XFa x1.out q4)
  replace x2:=hid (XFa x2.out q4)
  replace bq:=hid (X05 bq.out q4)
  clear q4
  go_wp2_with fail
  refine(al.out _ w4 hT.out rs.out).mono ?_
  rintro e w5 ⟨rfl,q5⟩
  replace hT:=hid (tabs_next hT.out q5)
  replace rs:=hid (X08 rs.out q5)
  replace ri:=hid (X01 ri.out q5)
  replace ro:=hid (X01 ro.out q5)
  replace x0:=hid (XFa x0.out q5)
  replace x1:=hid (XFa x1.out q5)
  replace x2:=hid (XFa x2.out q5)
  replace bq:=hid (X05 bq.out q5)
  clear q5
  rcases B1 with _ | _
  ·skip
   go_wp2_with fail
   go_ret
   exact⟨rfl,bq.out⟩
  ·skip
   go_wp2_with (first | refine ldX x0.out ?_ | refine ldX x1.out ?_ | refine ldX x2.out ?_)
   refine(X2r ri.out).mono ?_
   rintro e w6 ⟨rfl,q6⟩
   replace hT:=hid (tabs_next hT.out q6)
   replace rs:=hid (X08 rs.out q6)
   replace ri:=hid (X01 ri.out q6)
   replace ro:=hid (X01 ro.out q6)
   replace x0:=hid (XFa x0.out q6)
   replace x1:=hid (XFa x1.out q6)
   replace x2:=hid (XFa x2.out q6)
   replace bq:=hid (X05 bq.out q6)
   clear q6
   go_wp2_with fail
   refine(am.out _ w6 ri.out).mono ?_
   rintro e w7 ⟨rfl,q7⟩
   replace hT:=hid (tabs_next hT.out q7)
   replace rs:=hid (X08 rs.out q7)
   replace ri:=hid (X01 ri.out q7)
   replace ro:=hid (X01 ro.out q7)
   replace x0:=hid (XFa x0.out q7)
   replace x1:=hid (XFa x1.out q7)
   replace x2:=hid (XFa x2.out q7)
   replace bq:=hid (X05 bq.out q7)
   clear q7
   rcases B2 with _ | _
   ·skip
    go_wp2_with fail
    go_ret
    exact⟨rfl,bq.out⟩
   ·skip
    go_wp2_with (first | refine ldX x0.out ?_ | refine ldX x1.out ?_ | refine ldX x2.out ?_)
    refine(X2r ro.out).mono ?_
    rintro e w8 ⟨rfl,q8⟩
    replace hT:=hid (tabs_next hT.out q8)
    replace rs:=hid (X08 rs.out q8)
    replace ri:=hid (X01 ri.out q8)
    replace ro:=hid (X01 ro.out q8)
    replace x0:=hid (XFa x0.out q8)
    replace x1:=hid (XFa x1.out q8)
    replace x2:=hid (XFa x2.out q8)
    replace bq:=hid (X05 bq.out q8)
    clear q8
    go_wp2_with fail
    refine(an.out _ w8 ro.out).mono ?_
    rintro e w9 ⟨rfl,q9⟩
    replace hT:=hid (tabs_next hT.out q9)
    replace rs:=hid (X08 rs.out q9)
    replace ri:=hid (X01 ri.out q9)
    replace ro:=hid (X01 ro.out q9)
    replace x0:=hid (XFa x0.out q9)
    replace x1:=hid (XFa x1.out q9)
    replace x2:=hid (XFa x2.out q9)
    replace bq:=hid (X05 bq.out q9)
    clear q9
    rcases B3 with _ | _
    ·skip
     go_wp2_with fail
     go_ret
     exact⟨rfl,bq.out⟩
    ·obtain⟨_,⟨pp,cp,bj,_⟩,b7,_,_⟩:=XFp rs.out
     obtain⟨⟨pi,ki,aq,_⟩,ao⟩:=XG0 ri.out
     have bA:=XFe x0.out 9 _ bj
     have aF:=XFe x0.out 10 _ b7
     have c0:=aC.out.p
     by_cases hp:s.pend= []
     ·have bH: ¬(0:Int)<(s.pend.length:Int):=by rw[hp];simp
      cases he:s.ended with
      |
       true=>
       rw[he] at aF
       go_wp2_with fail
       go_ret
       exact⟨rfl,bq.out⟩
      |
       false=>
       rw[he] at aF
       have bs:=(Stg.X3I s).1 b0.out
       have bc:=Stg.X6c s i o
       have bd:=Stg.kind_step i o b6.out
       obtain⟨t,ag,ht,br,aJ,aK⟩:=Stg.XG4 bs b3.out b4.out hp he
       have aL:=fun J V VI VO Wz (oj:Old J Wz) (t:Tabs Wz) r1 r2 r3=>hP J V s VI i VO o Wz t oj aC.out av.out aV.out aW.out r1 r2 r3
       have ae:=fun J V VI VO Wz (oj:Old J Wz) (t:Tabs Wz) r1 r2 r3=>hP J V s VI i VO ⟨[],false⟩ Wz t oj aC.out av.out ⟨by simp,by intro b h;cases h⟩ aW.out r1 r2 r3
       have a6:=fun J V VI VO Wz (oj:Old J Wz) (t:Tabs Wz) r1 r2 r3=>hP J V s VI ⟨i.L,!i.closed⟩ VO o Wz t oj aC.out ⟨av.out.1,av.out.2⟩ aV.out aW.out r1 r2 r3
       rw[br] at ae
       rw[ht] at bc bd
       have bt:=Stg.small_sane ((Stg.X3I t).2 bc.1) bd
       obtain⟨⟨t',i2,o2,ok⟩,hq⟩: ∃q,Stg.stepS s i o=q:=⟨_,rfl⟩
       rw[hq] at aL ht ae aJ aK
       dsimp only at ht aJ aK
       obtain rfl:t'=t:=ht
       unfold XeD at aL ae
       dsimp only at aL ae
       obtain⟨C,hC⟩: ∃C,Stg.costS t'=C:=⟨_,rfl⟩
       have ak:=fun V W t r=>hK N0 V t' W t bt r
       rw[hC] at ak
       obtain⟨zc,aD⟩: ∃z:Ch,(⟨[],false⟩:Ch)=z:=⟨_,rfl⟩
       have c3:zc.closed=false:=by rw[←aD]
       have bu:Stg.X1Z zc=0:=by rw[←aD];rfl
       have bv:zc.Few:=by rw[←aD];exact⟨by simp,by intro b h;cases h⟩
       rw[aD] at ae
       have aG:=fun V W r=>hCn N0 V zc W bv r
       rw[bu] at aG
       have bI: ∃pi ki,Y[0]? =some (.slice pi i.L.length ki)∧RCh N0 w9 (.agg #[.slice pi i.L.length ki, .bool (!i.closed)]) ⟨i.L,!i.closed⟩:=by
        obtain⟨⟨p,k,h1,h2⟩,_⟩:=XG0 ri.out
        exact⟨p,k,h1,XGV _ h2⟩
       clear aq
       obtain⟨pi,ki,aq,rf⟩:=bI
       have bW:(ok != ok)=false:=X9j ok
       have af:((C:Int) != (C:Int))=false:=by simp
       have a7:((C:Int) == (C:Int))=true:=by simp
       have bU:(t'.ended != t'.ended)=false:=X9j _
       have bV:((t'.pend.length:Int) != (t'.pend.length:Int))=false:=by simp
       have c1:=bt.p
       have bT:=av.out.1
       replace aL:=hid aL
       replace ae:=hid ae
       replace a6:=hid a6
       replace ak:=hid ak
       replace aG:=hid aG
       replace aq:=hid aq
       replace ao:=hid ao
       replace rf:=hid rf
       replace aJ:=hid aJ
       replace aK:=hid aK
       replace aD:=hid aD
       go_upto_region 4 with(fail)
       clear br bc bd bs bu bv hC al am an bA aF bj b7 hq
       go_upto_region 4 with(fail)
       replace hT:=hid (tabs_next hT.out (Below.refl _ _).drew)
       replace rs:=hid (X08 rs.out (Below.refl _ _).drew)
       replace ri:=hid (X01 ri.out (Below.refl _ _).drew)
       replace ro:=hid (X01 ro.out (Below.refl _ _).drew)
       replace x0:=hid (XFa x0.out (Below.refl _ _).drew)
       replace x1:=hid (XFa x1.out (Below.refl _ _).drew)
       replace x2:=hid (XFa x2.out (Below.refl _ _).drew)
       replace rf:=hid (X01 rf.out (Below.refl _ _).drew)
       replace bq:=hid (X05 bq.out (Below.refl _ _).drew)
       have aU:=hid (show w.heap.size≤(w9).drew.heap.size from bq.out.size)
       refine RgA.X3b (J0:=fun _=>False) (X:= [0,1,2,3,4,5,6,7,8,12,13,14]) (Y:= [9,10,11]) (A:= [12,13,14]) (F:=fun fk J v wz=>match fk with | 0=>v= .agg X | 1=>v= .agg X | 2=>v= .agg Y | 3=>v= .agg Y | 4=>v= .agg Z | 5=>v= .agg Z | 6=>FT (t',i2,o2,ok) J v wz | 7=>FT (t',i2,o2,ok) J v wz | 8=>RS J wz v t' | 9=>RCh J wz v i2 | 10=>RCh J wz v o2 | 11=>v= .bool ok | 12=>FPx Tryz.prog (w9).drew.heap.size zeroS 48 v wz | 13=>FPx Tryz.prog (w9).drew.heap.size zeroC 49 v wz | 14=>FPx Tryz.prog (w9).drew.heap.size zeroC 49 v wz | _=>True) _ (by kernel_rfl) (by kernel_rfl) (by kernel_rfl) (by decide) (fun c a d v wz h=>by cases d <;> exact h) (fun _ h=>h.elim) ?stable ?fresh ?self ?step ?pure ?fin
       case stable=>
        intro k J v wz bz h hb
        match k,h with
        | 0,h=>exact h
        | 1,h=>exact h
        | 2,h=>exact h
        | 3,h=>exact h
        | 4,h=>exact h
        | 5,h=>exact h
        | 6,h=>exact X2s h hb
        | 7,h=>exact X2s h hb
        | 8,h=>exact X08 h hb
        | 9,h=>exact X01 h hb
        | 10,h=>exact X01 h hb
        | 11,h=>exact h
        | 12,h=>exact XFX h hb
        | 13,h=>exact XFX h hb
        | 14,h=>exact XFX h hb
        | _+15,h=>trivial
       case fresh=>
        intro k J v wz p h hp
        match k,h with
        | 0,h=>exact h
        | 1,h=>exact h
        | 2,h=>exact h
        | 3,h=>exact h
        | 4,h=>exact h
        | 5,h=>exact h
        | 6,h=>exact X2t h hp
        | 7,h=>exact X2t h hp
        | 8,h=>exact X5L h hp
        | 9,h=>exact X2b h hp
        | 10,h=>exact X2b h hp
        | 11,h=>exact h
        | 12,h=>exact h
        | 13,h=>exact h
        | 14,h=>exact h
        | _+15,h=>trivial
       case self=>
        intro k hk J J' v wz h
        simp only[List.mem_cons,List.not_mem_nil,or_false] at hk
        rcases hk with rfl | rfl | rfl <;> exact h
       case step=>
        simp only[List.cons_append,List.nil_append]
        refine RgA.Steps.cons (o:=⟨_,_,_,_,_,_⟩) rfl ?_ (RgA.Steps.cons (o:=⟨_,_,_,_,_,_⟩) rfl ?_ (RgA.Steps.cons (o:=⟨_,_,_,_,_,_⟩) rfl ?_ (RgA.Steps.cons (o:=⟨_,_,_,_,_,_⟩) rfl ?_ (RgA.Steps.cons (o:=⟨_,_,_,_,_,_⟩) rfl ?_ (RgA.Steps.cons (o:=⟨_,_,_,_,_,_⟩) rfl ?_ (RgA.Steps.cons (o:=⟨_,_,_,_,_,_⟩) rfl ?_ (RgA.Steps.cons (o:=⟨_,_,_,_,_,_⟩) rfl ?_ (RgA.Steps.cons (o:=⟨_,_,_,_,_,_⟩) rfl ?_ (RgA.Steps.cons (o:=⟨_,_,_,_,_,_⟩) rfl ?_ (RgA.Steps.cons (o:=⟨_,_,_,_,_,_⟩) rfl ?_ (RgA.Steps.cons (o:=⟨_,_,_,_,_,_⟩) rfl ?_ (RgA.Steps.cons (o:=⟨_,_,_,_,_,_⟩) rfl ?_ (RgA.Steps.cons (o:=⟨_,_,_,_,_,_⟩) rfl ?_ (RgA.Steps.cons (o:=⟨_,_,_,_,_,_⟩) rfl ?_ RgA.Steps.nil))))))))))))))
        ·intro y wz J hJ g f hd K' hK
         rw[RgA.X0q _ [(0,56),(1,57),(2,58),(3,59),(4,60),(5,61),(6,62),(7,55),(8,63),(12,8),(13,9),(14,10),(9,64),(10,65),(11,66)] (by kernel_rfl)] at hK ⊢
         simp only[RgA.mkL,List.foldl_cons,List.foldl_nil,List.setIfInBounds_toArray,List.set_cons_succ,List.set_cons_zero] at hK ⊢
         refine atL (XFa x0.out f) ?_
         have H:=hK.out (.agg X) wz (rfl) (Below.refl _ _) (fun h=>by simp at h)
         simp only[Act.put,List.setIfInBounds_toArray,List.set_cons_succ,List.set_cons_zero] at H
         exact H
        ·intro y wz J hJ g f hd K' hK
         have d0:(y 0)= .agg X:=hd 0 (by kernel_rfl)
         rw[RgA.X0q _ [(0,56),(1,57),(2,58),(3,59),(4,60),(5,61),(6,62),(7,55),(8,63),(12,8),(13,9),(14,10),(9,64),(10,65),(11,66)] (by kernel_rfl)] at hK ⊢
         simp only[RgA.mkL,List.foldl_cons,List.foldl_nil,List.setIfInBounds_toArray,List.set_cons_succ,List.set_cons_zero] at hK ⊢
         rw[d0] at hK ⊢
         go_simp
         refine(X4j (X08 rs.out f)).mono ?_
         rintro e w1 ⟨rfl,q0⟩
         go_wp2_with fail
         have H:=hK.out (.agg X) w1 (rfl) (q0) (fun h=>by simp at h)
         simp only[Act.put,List.setIfInBounds_toArray,List.set_cons_succ,List.set_cons_zero] at H
         exact H
        ·intro y wz J hJ g f hd K' hK
         rw[RgA.X0q _ [(0,56),(1,57),(2,58),(3,59),(4,60),(5,61),(6,62),(7,55),(8,63),(12,8),(13,9),(14,10),(9,64),(10,65),(11,66)] (by kernel_rfl)] at hK ⊢
         simp only[RgA.mkL,List.foldl_cons,List.foldl_nil,List.setIfInBounds_toArray,List.set_cons_succ,List.set_cons_zero] at hK ⊢
         refine atL (XFa x1.out f) ?_
         have H:=hK.out (.agg Y) wz (rfl) (Below.refl _ _) (fun h=>by simp at h)
         simp only[Act.put,List.setIfInBounds_toArray,List.set_cons_succ,List.set_cons_zero] at H
         exact H
        ·intro y wz J hJ g f hd K' hK
         have d2:(y 2)= .agg Y:=hd 2 (by kernel_rfl)
         rw[RgA.X0q _ [(0,56),(1,57),(2,58),(3,59),(4,60),(5,61),(6,62),(7,55),(8,63),(12,8),(13,9),(14,10),(9,64),(10,65),(11,66)] (by kernel_rfl)] at hK ⊢
         simp only[RgA.mkL,List.foldl_cons,List.foldl_nil,List.setIfInBounds_toArray,List.set_cons_succ,List.set_cons_zero] at hK ⊢
         rw[d2] at hK ⊢
         go_simp
         refine(X2r (X01 ri.out f)).mono ?_
         rintro e w1 ⟨rfl,q0⟩
         go_wp2_with fail
         have H:=hK.out (.agg Y) w1 (rfl) (q0) (fun h=>by simp at h)
         simp only[Act.put,List.setIfInBounds_toArray,List.set_cons_succ,List.set_cons_zero] at H
         exact H
        ·intro y wz J hJ g f hd K' hK
         rw[RgA.X0q _ [(0,56),(1,57),(2,58),(3,59),(4,60),(5,61),(6,62),(7,55),(8,63),(12,8),(13,9),(14,10),(9,64),(10,65),(11,66)] (by kernel_rfl)] at hK ⊢
         simp only[RgA.mkL,List.foldl_cons,List.foldl_nil,List.setIfInBounds_toArray,List.set_cons_succ,List.set_cons_zero] at hK ⊢
         refine atL (XFa x2.out f) ?_
         have H:=hK.out (.agg Z) wz (rfl) (Below.refl _ _) (fun h=>by simp at h)
         simp only[Act.put,List.setIfInBounds_toArray,List.set_cons_succ,List.set_cons_zero] at H
         exact H
        ·intro y wz J hJ g f hd K' hK
         have d4:(y 4)= .agg Z:=hd 4 (by kernel_rfl)
         rw[RgA.X0q _ [(0,56),(1,57),(2,58),(3,59),(4,60),(5,61),(6,62),(7,55),(8,63),(12,8),(13,9),(14,10),(9,64),(10,65),(11,66)] (by kernel_rfl)] at hK ⊢
         simp only[RgA.mkL,List.foldl_cons,List.foldl_nil,List.setIfInBounds_toArray,List.set_cons_succ,List.set_cons_zero] at hK ⊢
         rw[d4] at hK ⊢
         go_simp
         refine(X2r (X01 ro.out f)).mono ?_
         rintro e w1 ⟨rfl,q0⟩
         go_wp2_with fail
         have H:=hK.out (.agg Z) w1 (rfl) (q0) (fun h=>by simp at h)
         simp only[Act.put,List.setIfInBounds_toArray,List.set_cons_succ,List.set_cons_zero] at H
         exact H
        ·intro y wz J hJ g f hd K' hK
         have d1:(y 1)= .agg X:=hd 1 (by kernel_rfl)
         have d3:(y 3)= .agg Y:=hd 3 (by kernel_rfl)
         have d5:(y 5)= .agg Z:=hd 5 (by kernel_rfl)
         rw[RgA.X0q _ [(0,56),(1,57),(2,58),(3,59),(4,60),(5,61),(6,62),(7,55),(8,63),(12,8),(13,9),(14,10),(9,64),(10,65),(11,66)] (by kernel_rfl)] at hK ⊢
         simp only[RgA.mkL,List.foldl_cons,List.foldl_nil,List.setIfInBounds_toArray,List.set_cons_succ,List.set_cons_zero] at hK ⊢
         rw[d1,d3,d5] at hK ⊢
         go_simp
         refine(aL.out J _ _ _ wz (fun j h=>(hJ j h).1) (tabs_next hT.out f) (X08 (X3s rs.out (fun j hj h=>(hJ j h).2.elim (fun h=>h) (fun h=>absurd hj (Nat.not_lt.2 h)))) f) (X01 (X0Q ri.out (fun j hj h=>(hJ j h).2.elim (fun h=>h) (fun h=>absurd hj (Nat.not_lt.2 h)))) f) (X01 (X0Q ro.out (fun j hj h=>(hJ j h).2.elim (fun h=>h) (fun h=>absurd hj (Nat.not_lt.2 h)))) f)).mono ?_
         rintro e w1 ⟨vs,vi,vo,rfl,r1,r2,r3,q0⟩
         go_wp2_with fail
         have H:=hK.out (.tuple #[vs,vi,vo, .bool ok]) w1 (⟨vs,vi,vo,rfl,r1,r2,r3⟩) (q0) (fun h=>by simp at h)
         simp only[Act.put,List.setIfInBounds_toArray,List.set_cons_succ,List.set_cons_zero] at H
         exact H
        ·intro y wz J hJ g f hd K' hK
         have d6:FT (t',i2,o2,ok) J (y 6) wz:=hd 6 (by kernel_rfl)
         rw[RgA.X0q _ [(0,56),(1,57),(2,58),(3,59),(4,60),(5,61),(6,62),(7,55),(8,63),(12,8),(13,9),(14,10),(9,64),(10,65),(11,66)] (by kernel_rfl)] at hK ⊢
         simp only[RgA.mkL,List.foldl_cons,List.foldl_nil,List.setIfInBounds_toArray,List.set_cons_succ,List.set_cons_zero] at hK ⊢
         go_simp
         have H:=hK.out (y 6) wz (d6) (Below.refl _ _) (fun h=>by simp at h)
         simp only[Act.put,List.setIfInBounds_toArray,List.set_cons_succ,List.set_cons_zero] at H
         exact H
        ·intro y wz J hJ g f hd K' hK
         have d7:FT (t',i2,o2,ok) J (y 7) wz:=hd 7 (by kernel_rfl)
         rw[RgA.X0q _ [(0,56),(1,57),(2,58),(3,59),(4,60),(5,61),(6,62),(7,55),(8,63),(12,8),(13,9),(14,10),(9,64),(10,65),(11,66)] (by kernel_rfl)] at hK ⊢
         simp only[RgA.mkL,List.foldl_cons,List.foldl_nil,List.setIfInBounds_toArray,List.set_cons_succ,List.set_cons_zero] at hK ⊢
         obtain⟨vs,vi,vo,e7,r1,r2,r3⟩:=X18 d7
         try dsimp only at e7 r1 r2 r3
         rw[e7] at hK ⊢
         clear e7
         go_simp
         have H:=hK.out (vs) wz (r1) (Below.refl _ _) (fun h=>by simp at h)
         simp only[Act.put,List.setIfInBounds_toArray,List.set_cons_succ,List.set_cons_zero] at H
         exact H
        ·intro y wz J hJ g f hd K' hK
         rw[RgA.X0q _ [(0,56),(1,57),(2,58),(3,59),(4,60),(5,61),(6,62),(7,55),(8,63),(12,8),(13,9),(14,10),(9,64),(10,65),(11,66)] (by kernel_rfl)] at hK ⊢
         simp only[RgA.mkL,List.foldl_cons,List.foldl_nil,List.setIfInBounds_toArray,List.set_cons_succ,List.set_cons_zero] at hK ⊢
         go_simp
         have H:=hK.out (.pointer (some ⟨wz.heap.size,0,none⟩)) (wz.alloc (.cells zeroS 48)) (⟨_,rfl,f.size,XFb wz_S wz⟩) (X04 wz _) (fun _=>XFZ wz _)
         simp only[Act.put,List.setIfInBounds_toArray,List.set_cons_succ,List.set_cons_zero] at H
         exact H
        ·intro y wz J hJ g f hd K' hK
         rw[RgA.X0q _ [(0,56),(1,57),(2,58),(3,59),(4,60),(5,61),(6,62),(7,55),(8,63),(12,8),(13,9),(14,10),(9,64),(10,65),(11,66)] (by kernel_rfl)] at hK ⊢
         simp only[RgA.mkL,List.foldl_cons,List.foldl_nil,List.setIfInBounds_toArray,List.set_cons_succ,List.set_cons_zero] at hK ⊢
         go_simp
         have H:=hK.out (.pointer (some ⟨wz.heap.size,0,none⟩)) (wz.alloc (.cells zeroC 49)) (⟨_,rfl,f.size,XFb wz_C wz⟩) (X04 wz _) (fun _=>XFZ wz _)
         simp only[Act.put,List.setIfInBounds_toArray,List.set_cons_succ,List.set_cons_zero] at H
         exact H
        ·intro y wz J hJ g f hd K' hK
         rw[RgA.X0q _ [(0,56),(1,57),(2,58),(3,59),(4,60),(5,61),(6,62),(7,55),(8,63),(12,8),(13,9),(14,10),(9,64),(10,65),(11,66)] (by kernel_rfl)] at hK ⊢
         simp only[RgA.mkL,List.foldl_cons,List.foldl_nil,List.setIfInBounds_toArray,List.set_cons_succ,List.set_cons_zero] at hK ⊢
         go_simp
         have H:=hK.out (.pointer (some ⟨wz.heap.size,0,none⟩)) (wz.alloc (.cells zeroC 49)) (⟨_,rfl,f.size,XFb wz_C wz⟩) (X04 wz _) (fun _=>XFZ wz _)
         simp only[Act.put,List.setIfInBounds_toArray,List.set_cons_succ,List.set_cons_zero] at H
         exact H
        ·intro y wz J hJ g f hd K' hK
         have d7:FT (t',i2,o2,ok) J (y 7) wz:=hd 7 (by kernel_rfl)
         rw[RgA.X0q _ [(0,56),(1,57),(2,58),(3,59),(4,60),(5,61),(6,62),(7,55),(8,63),(12,8),(13,9),(14,10),(9,64),(10,65),(11,66)] (by kernel_rfl)] at hK ⊢
         simp only[RgA.mkL,List.foldl_cons,List.foldl_nil,List.setIfInBounds_toArray,List.set_cons_succ,List.set_cons_zero] at hK ⊢
         obtain⟨vs,vi,vo,e7,r1,r2,r3⟩:=X18 d7
         try dsimp only at e7 r1 r2 r3
         rw[e7] at hK ⊢
         clear e7
         go_simp
         have H:=hK.out (vi) wz (r2) (Below.refl _ _) (fun h=>by simp at h)
         simp only[Act.put,List.setIfInBounds_toArray,List.set_cons_succ,List.set_cons_zero] at H
         exact H
        ·intro y wz J hJ g f hd K' hK
         have d7:FT (t',i2,o2,ok) J (y 7) wz:=hd 7 (by kernel_rfl)
         rw[RgA.X0q _ [(0,56),(1,57),(2,58),(3,59),(4,60),(5,61),(6,62),(7,55),(8,63),(12,8),(13,9),(14,10),(9,64),(10,65),(11,66)] (by kernel_rfl)] at hK ⊢
         simp only[RgA.mkL,List.foldl_cons,List.foldl_nil,List.setIfInBounds_toArray,List.set_cons_succ,List.set_cons_zero] at hK ⊢
         obtain⟨vs,vi,vo,e7,r1,r2,r3⟩:=X18 d7
         try dsimp only at e7 r1 r2 r3
         rw[e7] at hK ⊢
         clear e7
         go_simp
         have H:=hK.out (vo) wz (r3) (Below.refl _ _) (fun h=>by simp at h)
         simp only[Act.put,List.setIfInBounds_toArray,List.set_cons_succ,List.set_cons_zero] at H
         exact H
        ·intro y wz J hJ g f hd K' hK
         have d7:FT (t',i2,o2,ok) J (y 7) wz:=hd 7 (by kernel_rfl)
         rw[RgA.X0q _ [(0,56),(1,57),(2,58),(3,59),(4,60),(5,61),(6,62),(7,55),(8,63),(12,8),(13,9),(14,10),(9,64),(10,65),(11,66)] (by kernel_rfl)] at hK ⊢
         simp only[RgA.mkL,List.foldl_cons,List.foldl_nil,List.setIfInBounds_toArray,List.set_cons_succ,List.set_cons_zero] at hK ⊢
         obtain⟨vs,vi,vo,e7,r1,r2,r3⟩:=X18 d7
         try dsimp only at e7 r1 r2 r3
         rw[e7] at hK ⊢
         clear e7
         go_simp
         have H:=hK.out (.bool ok) wz (rfl) (Below.refl _ _) (fun h=>by simp at h)
         simp only[Act.put,List.setIfInBounds_toArray,List.set_cons_succ,List.set_cons_zero] at H
         exact H
       case pure=>
        refine RgA.Pures.cons rfl ?_ (RgA.Pures.cons rfl ?_ (RgA.Pures.cons rfl ?_ RgA.Pures.nil))
        ·intro y wz J hd
         have d7:FT (t',i2,o2,ok) J (y 7) wz:=hd 7 (by kernel_rfl)
         obtain⟨vs,vi,vo,e7,r1,r2,r3⟩:=X18 d7
         refine⟨vi,r2,?_⟩
         rw[RgA.X0q _ [(0,56),(1,57),(2,58),(3,59),(4,60),(5,61),(6,62),(7,55),(8,63),(12,8),(13,9),(14,10),(9,64),(10,65),(11,66)] (by kernel_rfl)]
         simp only[RgA.mkL,List.foldl_cons,List.foldl_nil,List.setIfInBounds_toArray,List.set_cons_succ,List.set_cons_zero]
         rw[e7]
         refine⟨by kernel_rfl,fun w'=>?_⟩
         go_simp
        ·intro y wz J hd
         have d7:FT (t',i2,o2,ok) J (y 7) wz:=hd 7 (by kernel_rfl)
         obtain⟨vs,vi,vo,e7,r1,r2,r3⟩:=X18 d7
         refine⟨vo,r3,?_⟩
         rw[RgA.X0q _ [(0,56),(1,57),(2,58),(3,59),(4,60),(5,61),(6,62),(7,55),(8,63),(12,8),(13,9),(14,10),(9,64),(10,65),(11,66)] (by kernel_rfl)]
         simp only[RgA.mkL,List.foldl_cons,List.foldl_nil,List.setIfInBounds_toArray,List.set_cons_succ,List.set_cons_zero]
         rw[e7]
         refine⟨by kernel_rfl,fun w'=>?_⟩
         go_simp
        ·intro y wz J hd
         have d7:FT (t',i2,o2,ok) J (y 7) wz:=hd 7 (by kernel_rfl)
         obtain⟨vs,vi,vo,e7,r1,r2,r3⟩:=X18 d7
         refine⟨.bool ok,rfl,?_⟩
         rw[RgA.X0q _ [(0,56),(1,57),(2,58),(3,59),(4,60),(5,61),(6,62),(7,55),(8,63),(12,8),(13,9),(14,10),(9,64),(10,65),(11,66)] (by kernel_rfl)]
         simp only[RgA.mkL,List.foldl_cons,List.foldl_nil,List.setIfInBounds_toArray,List.set_cons_succ,List.set_cons_zero]
         rw[e7]
         refine⟨by kernel_rfl,fun w'=>?_⟩
         go_simp
       intro y T au J aS a8 aT hF a9
       have f8:RS J T (y 8) t':=hF 8 (by decide)
       have f9:RCh J T (y 9) i2:=hF 9 (by decide)
       have x:RCh J T (y 10) o2:=hF 10 (by decide)
       have ai:y 11= .bool ok:=hF 11 (by decide)
       obtain⟨p9,a3,aw,x9⟩:FPx Tryz.prog (w9).drew.heap.size zeroS 48 (y 12) T:=hF 12 (by decide)
       obtain⟨bf,a4,ac,I⟩:FPx Tryz.prog (w9).drew.heap.size zeroC 49 (y 13) T:=hF 13 (by decide)
       obtain⟨bg,a5,ad,M⟩:FPx Tryz.prog (w9).drew.heap.size zeroC 49 (y 14) T:=hF 14 (by decide)
       have n1:p9≠bf:=fun h=>a9 12 (by decide) 13 (by decide) (by decide) (by rw[a3,a4,h])
       have n2:p9≠bg:=fun h=>a9 12 (by decide) 14 (by decide) (by decide) (by rw[a3,a5,h])
       have n3:bf≠bg:=fun h=>a9 13 (by decide) 14 (by decide) (by decide) (by rw[a4,a5,h])
       have j9:=a8 12 (by decide) p9 a3
       have ax:=a8 13 (by decide) bf a4
       have ay:=a8 14 (by decide) bg a5
       try dsimp only at f8 f9 x ai
       obtain⟨XT,e8,a1,a2⟩:=rs_x f8
       obtain⟨YT,e9,b1,b2,_⟩:=rch_x f9
       obtain⟨ZT,ah,g1,g2,_⟩:=rch_x x
       have v9:=wx_S a1 a2
       have aa:=wx_C b1 b2
       have ab:=wx_C g1 g2
       unfold TO17 at v9
       unfold TO16 at aa ab
       rw[e8] at f8
       rw[e9] at f9
       rw[ah] at x
       rw[RgA.X0q _ [(0,56),(1,57),(2,58),(3,59),(4,60),(5,61),(6,62),(7,55),(8,63),(12,8),(13,9),(14,10),(9,64),(10,65),(11,66)] (by kernel_rfl)]
       simp only[RgA.mkL,List.foldl_cons,List.foldl_nil,List.setIfInBounds_toArray,List.set_cons_succ,List.set_cons_zero]
       rw[a3,a4,a5,e8,e9,ah,ai]
       clear e8 e9 ah ai a3 a4 a5 a9 aS a8 hF a1 a2 b1 b2 g1 g2
       refine' tkS 15 rfl x9 v9 (fun bw p=>?_)
       have aj:=p.below _ _ aw au
       have u:=XFf (J:=J) p j9
       refine⟨aj,?_⟩
       try simp only[putA]
       replace f8:=X3f f8 u
       replace f9:=X0L f9 u
       replace x:=X0L x u
       replace x9:=XFg p v9
       replace I:=XFh I p n1.symm
       replace M:=XFh M p n2.symm
       clear u p
       refine' tkS 16 rfl I aa (fun bx p=>?_)
       have af:=p.below _ _ ac aj
       have u:=XFf (J:=J) p ax
       refine⟨af,?_⟩
       try simp only[putA]
       replace f8:=X3f f8 u
       replace f9:=X0L f9 u
       replace x:=X0L x u
       replace I:=XFg p aa
       replace x9:=XFh x9 p n1
       replace M:=XFh M p n3.symm
       clear u p
       refine' tkS 17 rfl M ab (fun wd p=>?_)
       have a7:=p.below _ _ ad af
       have u:=XFf (J:=J) p ay
       refine⟨a7,?_⟩
       try simp only[putA]
       replace f8:=X3f f8 u
       replace f9:=X0L f9 u
       replace x:=X0L x u
       replace M:=XFg p ab
       replace x9:=XFh x9 p n2
       replace I:=XFh I p n3
       clear u p
       refine' tk 18 rfl a7 ?_
       try simp only[putA]
       refine wpAnyH_done (by kernel_rfl) ?_ _
       have rt:=hid (X3s (K:=N0) f8 (fun _ _ h=>h.elim))
       have rj:=hid (X0Q (K:=N0) f9 (fun _ _ h=>h.elim))
       have rp:=hid (X0Q (K:=N0) x (fun _ _ h=>h.elim))
       have xt:=hid x9
       have xj:=hid I
       have xp:=hid M
       have qz:=a7
       clear f8 f9 x x9 I M au aj af a7 aT n1 n2 n3 j9 ax ay aw ac ad aU v9 aa ab
       replace hT:=hid (tabs_next hT.out qz)
       replace rs:=hid (X08 rs.out qz)
       replace ri:=hid (X01 ri.out qz)
       replace ro:=hid (X01 ro.out qz)
       replace x0:=hid (XFa x0.out qz)
       replace x1:=hid (XFa x1.out qz)
       replace x2:=hid (XFa x2.out qz)
       replace rf:=hid (X01 rf.out qz)
       replace bq:=hid (X05 bq.out qz)
       clear qz
       go_upto_region 5 with(fail)
       replace hT:=hid (tabs_next hT.out (Below.refl _ _).drew)
       replace rs:=hid (X08 rs.out (Below.refl _ _).drew)
       replace ri:=hid (X01 ri.out (Below.refl _ _).drew)
       replace ro:=hid (X01 ro.out (Below.refl _ _).drew)
       replace x0:=hid (XFa x0.out (Below.refl _ _).drew)
       replace x1:=hid (XFa x1.out (Below.refl _ _).drew)
       replace x2:=hid (XFa x2.out (Below.refl _ _).drew)
       replace rf:=hid (X01 rf.out (Below.refl _ _).drew)
       replace rt:=hid (X08 rt.out (Below.refl _ _).drew)
       replace rj:=hid (X01 rj.out (Below.refl _ _).drew)
       replace rp:=hid (X01 rp.out (Below.refl _ _).drew)
       replace xt:=hid (XFa xt.out (Below.refl _ _).drew)
       replace xj:=hid (XFa xj.out (Below.refl _ _).drew)
       replace xp:=hid (XFa xp.out (Below.refl _ _).drew)
       replace bq:=hid (X05 bq.out (Below.refl _ _).drew)
       have aU:=hid (show w.heap.size≤(wd).drew.heap.size from bq.out.size)
       refine RgA.X3b (J0:=fun _=>False) (X:= [0,1,2,3,4,5,6,7,11,12,13]) (Y:= [8,9,10]) (A:= [11,12,13]) (F:=fun fk J v wz=>match fk with | 0=>v= .agg X | 1=>v= .agg X | 2=>v= .agg Y | 3=>v= .agg Y | 4=>v= .agg zeroC | 5=>FT (t',ag,zc,ok) J v wz | 6=>FT (t',ag,zc,ok) J v wz | 7=>RS J wz v t' | 8=>RCh J wz v ag | 9=>RCh J wz v zc | 10=>v= .bool ok | 11=>FPx Tryz.prog (wd).drew.heap.size zeroS 48 v wz | 12=>FPx Tryz.prog (wd).drew.heap.size zeroC 49 v wz | 13=>FPx Tryz.prog (wd).drew.heap.size zeroC 49 v wz | _=>True) _ (by kernel_rfl) (by kernel_rfl) (by kernel_rfl) (by decide) (fun c a d v wz h=>by cases d <;> exact h) (fun _ h=>h.elim) ?stableU ?freshU ?selfU ?stepU ?pureU ?finU
       case stableU=>
        intro k J v wz bz h hb
        match k,h with
        | 0,h=>exact h
        | 1,h=>exact h
        | 2,h=>exact h
        | 3,h=>exact h
        | 4,h=>exact h
        | 5,h=>exact X2s h hb
        | 6,h=>exact X2s h hb
        | 7,h=>exact X08 h hb
        | 8,h=>exact X01 h hb
        | 9,h=>exact X01 h hb
        | 10,h=>exact h
        | 11,h=>exact XFX h hb
        | 12,h=>exact XFX h hb
        | 13,h=>exact XFX h hb
        | _+14,h=>trivial
       case freshU=>
        intro k J v wz p h hp
        match k,h with
        | 0,h=>exact h
        | 1,h=>exact h
        | 2,h=>exact h
        | 3,h=>exact h
        | 4,h=>exact h
        | 5,h=>exact X2t h hp
        | 6,h=>exact X2t h hp
        | 7,h=>exact X5L h hp
        | 8,h=>exact X2b h hp
        | 9,h=>exact X2b h hp
        | 10,h=>exact h
        | 11,h=>exact h
        | 12,h=>exact h
        | 13,h=>exact h
        | _+14,h=>trivial
       case selfU=>
        intro k hk J J' v wz h
        simp only[List.mem_cons,List.not_mem_nil,or_false] at hk
        rcases hk with rfl | rfl | rfl <;> exact h
       case stepU=>
        simp only[List.cons_append,List.nil_append]
        refine RgA.Steps.cons (o:=⟨_,_,_,_,_,_⟩) rfl ?_ (RgA.Steps.cons (o:=⟨_,_,_,_,_,_⟩) rfl ?_ (RgA.Steps.cons (o:=⟨_,_,_,_,_,_⟩) rfl ?_ (RgA.Steps.cons (o:=⟨_,_,_,_,_,_⟩) rfl ?_ (RgA.Steps.cons (o:=⟨_,_,_,_,_,_⟩) rfl ?_ (RgA.Steps.cons (o:=⟨_,_,_,_,_,_⟩) rfl ?_ (RgA.Steps.cons (o:=⟨_,_,_,_,_,_⟩) rfl ?_ (RgA.Steps.cons (o:=⟨_,_,_,_,_,_⟩) rfl ?_ (RgA.Steps.cons (o:=⟨_,_,_,_,_,_⟩) rfl ?_ (RgA.Steps.cons (o:=⟨_,_,_,_,_,_⟩) rfl ?_ (RgA.Steps.cons (o:=⟨_,_,_,_,_,_⟩) rfl ?_ (RgA.Steps.cons (o:=⟨_,_,_,_,_,_⟩) rfl ?_ (RgA.Steps.cons (o:=⟨_,_,_,_,_,_⟩) rfl ?_ (RgA.Steps.cons (o:=⟨_,_,_,_,_,_⟩) rfl ?_ RgA.Steps.nil)))))))))))))
        ·intro y wz J hJ g f hd K' hK
         rw[RgA.X0q _ [(0,68),(1,69),(2,70),(3,71),(4,72),(5,73),(6,67),(7,74),(11,12),(12,13),(13,14),(8,75),(9,76),(10,77)] (by kernel_rfl)] at hK ⊢
         simp only[RgA.mkL,List.foldl_cons,List.foldl_nil,List.setIfInBounds_toArray,List.set_cons_succ,List.set_cons_zero] at hK ⊢
         refine atL (XFa x0.out f) ?_
         have H:=hK.out (.agg X) wz (rfl) (Below.refl _ _) (fun h=>by simp at h)
         simp only[Act.put,List.setIfInBounds_toArray,List.set_cons_succ,List.set_cons_zero] at H
         exact H
        ·intro y wz J hJ g f hd K' hK
         have d0:(y 0)= .agg X:=hd 0 (by kernel_rfl)
         rw[RgA.X0q _ [(0,68),(1,69),(2,70),(3,71),(4,72),(5,73),(6,67),(7,74),(11,12),(12,13),(13,14),(8,75),(9,76),(10,77)] (by kernel_rfl)] at hK ⊢
         simp only[RgA.mkL,List.foldl_cons,List.foldl_nil,List.setIfInBounds_toArray,List.set_cons_succ,List.set_cons_zero] at hK ⊢
         rw[d0] at hK ⊢
         go_simp
         refine(X4j (X08 rs.out f)).mono ?_
         rintro e w1 ⟨rfl,q0⟩
         go_wp2_with fail
         have H:=hK.out (.agg X) w1 (rfl) (q0) (fun h=>by simp at h)
         simp only[Act.put,List.setIfInBounds_toArray,List.set_cons_succ,List.set_cons_zero] at H
         exact H
        ·intro y wz J hJ g f hd K' hK
         rw[RgA.X0q _ [(0,68),(1,69),(2,70),(3,71),(4,72),(5,73),(6,67),(7,74),(11,12),(12,13),(13,14),(8,75),(9,76),(10,77)] (by kernel_rfl)] at hK ⊢
         simp only[RgA.mkL,List.foldl_cons,List.foldl_nil,List.setIfInBounds_toArray,List.set_cons_succ,List.set_cons_zero] at hK ⊢
         refine atL (XFa x1.out f) ?_
         have H:=hK.out (.agg Y) wz (rfl) (Below.refl _ _) (fun h=>by simp at h)
         simp only[Act.put,List.setIfInBounds_toArray,List.set_cons_succ,List.set_cons_zero] at H
         exact H
        ·intro y wz J hJ g f hd K' hK
         have d2:(y 2)= .agg Y:=hd 2 (by kernel_rfl)
         rw[RgA.X0q _ [(0,68),(1,69),(2,70),(3,71),(4,72),(5,73),(6,67),(7,74),(11,12),(12,13),(13,14),(8,75),(9,76),(10,77)] (by kernel_rfl)] at hK ⊢
         simp only[RgA.mkL,List.foldl_cons,List.foldl_nil,List.setIfInBounds_toArray,List.set_cons_succ,List.set_cons_zero] at hK ⊢
         rw[d2] at hK ⊢
         go_simp
         refine(X2r (X01 ri.out f)).mono ?_
         rintro e w1 ⟨rfl,q0⟩
         go_wp2_with fail
         have H:=hK.out (.agg Y) w1 (rfl) (q0) (fun h=>by simp at h)
         simp only[Act.put,List.setIfInBounds_toArray,List.set_cons_succ,List.set_cons_zero] at H
         exact H
        ·intro y wz J hJ g f hd K' hK
         rw[RgA.X0q _ [(0,68),(1,69),(2,70),(3,71),(4,72),(5,73),(6,67),(7,74),(11,12),(12,13),(13,14),(8,75),(9,76),(10,77)] (by kernel_rfl)] at hK ⊢
         simp only[RgA.mkL,List.foldl_cons,List.foldl_nil,List.setIfInBounds_toArray,List.set_cons_succ,List.set_cons_zero] at hK ⊢
         refine atO (XGX wz) ?_
         have H:=hK.out (.agg zeroC) wz (rfl) (Below.refl _ _) (fun h=>by simp at h)
         simp only[Act.put,List.setIfInBounds_toArray,List.set_cons_succ,List.set_cons_zero] at H
         exact H
        ·intro y wz J hJ g f hd K' hK
         have d1:(y 1)= .agg X:=hd 1 (by kernel_rfl)
         have d3:(y 3)= .agg Y:=hd 3 (by kernel_rfl)
         have d4:(y 4)= .agg zeroC:=hd 4 (by kernel_rfl)
         rw[RgA.X0q _ [(0,68),(1,69),(2,70),(3,71),(4,72),(5,73),(6,67),(7,74),(11,12),(12,13),(13,14),(8,75),(9,76),(10,77)] (by kernel_rfl)] at hK ⊢
         simp only[RgA.mkL,List.foldl_cons,List.foldl_nil,List.setIfInBounds_toArray,List.set_cons_succ,List.set_cons_zero] at hK ⊢
         rw[d1,d3,d4] at hK ⊢
         go_simp
         refine(ae.out J _ _ _ wz (fun j h=>(hJ j h).1) (tabs_next hT.out f) (X08 (X3s rs.out (fun j hj h=>(hJ j h).2.elim (fun h=>h) (fun h=>absurd hj (Nat.not_lt.2 h)))) f) (X01 (X0Q ri.out (fun j hj h=>(hJ j h).2.elim (fun h=>h) (fun h=>absurd hj (Nat.not_lt.2 h)))) f) (aD.out ▸ XGW J wz)).mono ?_
         rintro e w1 ⟨vs,vi,vo,rfl,r1,r2,r3,q0⟩
         go_wp2_with fail
         have H:=hK.out (.tuple #[vs,vi,vo, .bool ok]) w1 (⟨vs,vi,vo,rfl,r1,r2,r3⟩) (q0) (fun h=>by simp at h)
         simp only[Act.put,List.setIfInBounds_toArray,List.set_cons_succ,List.set_cons_zero] at H
         exact H
        ·intro y wz J hJ g f hd K' hK
         have d5:FT (t',ag,zc,ok) J (y 5) wz:=hd 5 (by kernel_rfl)
         rw[RgA.X0q _ [(0,68),(1,69),(2,70),(3,71),(4,72),(5,73),(6,67),(7,74),(11,12),(12,13),(13,14),(8,75),(9,76),(10,77)] (by kernel_rfl)] at hK ⊢
         simp only[RgA.mkL,List.foldl_cons,List.foldl_nil,List.setIfInBounds_toArray,List.set_cons_succ,List.set_cons_zero] at hK ⊢
         go_simp
         have H:=hK.out (y 5) wz (d5) (Below.refl _ _) (fun h=>by simp at h)
         simp only[Act.put,List.setIfInBounds_toArray,List.set_cons_succ,List.set_cons_zero] at H
         exact H
        ·intro y wz J hJ g f hd K' hK
         have d7:FT (t',ag,zc,ok) J (y 6) wz:=hd 6 (by kernel_rfl)
         rw[RgA.X0q _ [(0,68),(1,69),(2,70),(3,71),(4,72),(5,73),(6,67),(7,74),(11,12),(12,13),(13,14),(8,75),(9,76),(10,77)] (by kernel_rfl)] at hK ⊢
         simp only[RgA.mkL,List.foldl_cons,List.foldl_nil,List.setIfInBounds_toArray,List.set_cons_succ,List.set_cons_zero] at hK ⊢
         obtain⟨vs,vi,vo,e7,r1,r2,r3⟩:=X18 d7
         try dsimp only at e7 r1 r2 r3
         rw[e7] at hK ⊢
         clear e7
         go_simp
         have H:=hK.out (vs) wz (r1) (Below.refl _ _) (fun h=>by simp at h)
         simp only[Act.put,List.setIfInBounds_toArray,List.set_cons_succ,List.set_cons_zero] at H
         exact H
        ·intro y wz J hJ g f hd K' hK
         rw[RgA.X0q _ [(0,68),(1,69),(2,70),(3,71),(4,72),(5,73),(6,67),(7,74),(11,12),(12,13),(13,14),(8,75),(9,76),(10,77)] (by kernel_rfl)] at hK ⊢
         simp only[RgA.mkL,List.foldl_cons,List.foldl_nil,List.setIfInBounds_toArray,List.set_cons_succ,List.set_cons_zero] at hK ⊢
         go_simp
         have H:=hK.out (.pointer (some ⟨wz.heap.size,0,none⟩)) (wz.alloc (.cells zeroS 48)) (⟨_,rfl,f.size,XFb wz_S wz⟩) (X04 wz _) (fun _=>XFZ wz _)
         simp only[Act.put,List.setIfInBounds_toArray,List.set_cons_succ,List.set_cons_zero] at H
         exact H
        ·intro y wz J hJ g f hd K' hK
         rw[RgA.X0q _ [(0,68),(1,69),(2,70),(3,71),(4,72),(5,73),(6,67),(7,74),(11,12),(12,13),(13,14),(8,75),(9,76),(10,77)] (by kernel_rfl)] at hK ⊢
         simp only[RgA.mkL,List.foldl_cons,List.foldl_nil,List.setIfInBounds_toArray,List.set_cons_succ,List.set_cons_zero] at hK ⊢
         go_simp
         have H:=hK.out (.pointer (some ⟨wz.heap.size,0,none⟩)) (wz.alloc (.cells zeroC 49)) (⟨_,rfl,f.size,XFb wz_C wz⟩) (X04 wz _) (fun _=>XFZ wz _)
         simp only[Act.put,List.setIfInBounds_toArray,List.set_cons_succ,List.set_cons_zero] at H
         exact H
        ·intro y wz J hJ g f hd K' hK
         rw[RgA.X0q _ [(0,68),(1,69),(2,70),(3,71),(4,72),(5,73),(6,67),(7,74),(11,12),(12,13),(13,14),(8,75),(9,76),(10,77)] (by kernel_rfl)] at hK ⊢
         simp only[RgA.mkL,List.foldl_cons,List.foldl_nil,List.setIfInBounds_toArray,List.set_cons_succ,List.set_cons_zero] at hK ⊢
         go_simp
         have H:=hK.out (.pointer (some ⟨wz.heap.size,0,none⟩)) (wz.alloc (.cells zeroC 49)) (⟨_,rfl,f.size,XFb wz_C wz⟩) (X04 wz _) (fun _=>XFZ wz _)
         simp only[Act.put,List.setIfInBounds_toArray,List.set_cons_succ,List.set_cons_zero] at H
         exact H
        ·intro y wz J hJ g f hd K' hK
         have d7:FT (t',ag,zc,ok) J (y 6) wz:=hd 6 (by kernel_rfl)
         rw[RgA.X0q _ [(0,68),(1,69),(2,70),(3,71),(4,72),(5,73),(6,67),(7,74),(11,12),(12,13),(13,14),(8,75),(9,76),(10,77)] (by kernel_rfl)] at hK ⊢
         simp only[RgA.mkL,List.foldl_cons,List.foldl_nil,List.setIfInBounds_toArray,List.set_cons_succ,List.set_cons_zero] at hK ⊢
         obtain⟨vs,vi,vo,e7,r1,r2,r3⟩:=X18 d7
         try dsimp only at e7 r1 r2 r3
         rw[e7] at hK ⊢
         clear e7
         go_simp
         have H:=hK.out (vi) wz (r2) (Below.refl _ _) (fun h=>by simp at h)
         simp only[Act.put,List.setIfInBounds_toArray,List.set_cons_succ,List.set_cons_zero] at H
         exact H
        ·intro y wz J hJ g f hd K' hK
         have d7:FT (t',ag,zc,ok) J (y 6) wz:=hd 6 (by kernel_rfl)
         rw[RgA.X0q _ [(0,68),(1,69),(2,70),(3,71),(4,72),(5,73),(6,67),(7,74),(11,12),(12,13),(13,14),(8,75),(9,76),(10,77)] (by kernel_rfl)] at hK ⊢
         simp only[RgA.mkL,List.foldl_cons,List.foldl_nil,List.setIfInBounds_toArray,List.set_cons_succ,List.set_cons_zero] at hK ⊢
         obtain⟨vs,vi,vo,e7,r1,r2,r3⟩:=X18 d7
         try dsimp only at e7 r1 r2 r3
         rw[e7] at hK ⊢
         clear e7
         go_simp
         have H:=hK.out (vo) wz (r3) (Below.refl _ _) (fun h=>by simp at h)
         simp only[Act.put,List.setIfInBounds_toArray,List.set_cons_succ,List.set_cons_zero] at H
         exact H
        ·intro y wz J hJ g f hd K' hK
         have d7:FT (t',ag,zc,ok) J (y 6) wz:=hd 6 (by kernel_rfl)
         rw[RgA.X0q _ [(0,68),(1,69),(2,70),(3,71),(4,72),(5,73),(6,67),(7,74),(11,12),(12,13),(13,14),(8,75),(9,76),(10,77)] (by kernel_rfl)] at hK ⊢
         simp only[RgA.mkL,List.foldl_cons,List.foldl_nil,List.setIfInBounds_toArray,List.set_cons_succ,List.set_cons_zero] at hK ⊢
         obtain⟨vs,vi,vo,e7,r1,r2,r3⟩:=X18 d7
         try dsimp only at e7 r1 r2 r3
         rw[e7] at hK ⊢
         clear e7
         go_simp
         have H:=hK.out (.bool ok) wz (rfl) (Below.refl _ _) (fun h=>by simp at h)
         simp only[Act.put,List.setIfInBounds_toArray,List.set_cons_succ,List.set_cons_zero] at H
         exact H
       case pureU=>
        refine RgA.Pures.cons rfl ?_ (RgA.Pures.cons rfl ?_ (RgA.Pures.cons rfl ?_ RgA.Pures.nil))
        ·intro y wz J hd
         have d7:FT (t',ag,zc,ok) J (y 6) wz:=hd 6 (by kernel_rfl)
         obtain⟨vs,vi,vo,e7,r1,r2,r3⟩:=X18 d7
         refine⟨vi,r2,?_⟩
         rw[RgA.X0q _ [(0,68),(1,69),(2,70),(3,71),(4,72),(5,73),(6,67),(7,74),(11,12),(12,13),(13,14),(8,75),(9,76),(10,77)] (by kernel_rfl)]
         simp only[RgA.mkL,List.foldl_cons,List.foldl_nil,List.setIfInBounds_toArray,List.set_cons_succ,List.set_cons_zero]
         rw[e7]
         refine⟨by kernel_rfl,fun w'=>?_⟩
         go_simp
        ·intro y wz J hd
         have d7:FT (t',ag,zc,ok) J (y 6) wz:=hd 6 (by kernel_rfl)
         obtain⟨vs,vi,vo,e7,r1,r2,r3⟩:=X18 d7
         refine⟨vo,r3,?_⟩
         rw[RgA.X0q _ [(0,68),(1,69),(2,70),(3,71),(4,72),(5,73),(6,67),(7,74),(11,12),(12,13),(13,14),(8,75),(9,76),(10,77)] (by kernel_rfl)]
         simp only[RgA.mkL,List.foldl_cons,List.foldl_nil,List.setIfInBounds_toArray,List.set_cons_succ,List.set_cons_zero]
         rw[e7]
         refine⟨by kernel_rfl,fun w'=>?_⟩
         go_simp
        ·intro y wz J hd
         have d7:FT (t',ag,zc,ok) J (y 6) wz:=hd 6 (by kernel_rfl)
         obtain⟨vs,vi,vo,e7,r1,r2,r3⟩:=X18 d7
         refine⟨.bool ok,rfl,?_⟩
         rw[RgA.X0q _ [(0,68),(1,69),(2,70),(3,71),(4,72),(5,73),(6,67),(7,74),(11,12),(12,13),(13,14),(8,75),(9,76),(10,77)] (by kernel_rfl)]
         simp only[RgA.mkL,List.foldl_cons,List.foldl_nil,List.setIfInBounds_toArray,List.set_cons_succ,List.set_cons_zero]
         rw[e7]
         refine⟨by kernel_rfl,fun w'=>?_⟩
         go_simp
       intro y T au J aS a8 aT hF a9
       have f8:RS J T (y 7) t':=hF 7 (by decide)
       have f9:RCh J T (y 8) ag:=hF 8 (by decide)
       have x:RCh J T (y 9) zc:=hF 9 (by decide)
       have ai:y 10= .bool ok:=hF 10 (by decide)
       obtain⟨aO,a3,aw,x9⟩:FPx Tryz.prog (wd).drew.heap.size zeroS 48 (y 11) T:=hF 11 (by decide)
       obtain⟨aX,a4,ac,I⟩:FPx Tryz.prog (wd).drew.heap.size zeroC 49 (y 12) T:=hF 12 (by decide)
       obtain⟨az,a5,ad,M⟩:FPx Tryz.prog (wd).drew.heap.size zeroC 49 (y 13) T:=hF 13 (by decide)
       have n1:aO≠aX:=fun h=>a9 11 (by decide) 12 (by decide) (by decide) (by rw[a3,a4,h])
       have n2:aO≠az:=fun h=>a9 11 (by decide) 13 (by decide) (by decide) (by rw[a3,a5,h])
       have n3:aX≠az:=fun h=>a9 12 (by decide) 13 (by decide) (by decide) (by rw[a4,a5,h])
       have j9:=a8 11 (by decide) aO a3
       have ax:=a8 12 (by decide) aX a4
       have ay:=a8 13 (by decide) az a5
       try dsimp only at f8 f9 x ai
       obtain⟨bJ,e8,a1,a2⟩:=rs_x f8
       obtain⟨c4,e9,b1,b2,_⟩:=rch_x f9
       obtain⟨bK,ah,g1,g2,_⟩:=rch_x x
       have v9:=wx_S a1 a2
       have aa:=wx_C b1 b2
       have ab:=wx_C g1 g2
       unfold TO17 at v9
       unfold TO16 at aa ab
       rw[e8] at f8
       rw[e9] at f9
       rw[ah] at x
       rw[RgA.X0q _ [(0,68),(1,69),(2,70),(3,71),(4,72),(5,73),(6,67),(7,74),(11,12),(12,13),(13,14),(8,75),(9,76),(10,77)] (by kernel_rfl)]
       simp only[RgA.mkL,List.foldl_cons,List.foldl_nil,List.setIfInBounds_toArray,List.set_cons_succ,List.set_cons_zero]
       rw[a3,a4,a5,e8,e9,ah,ai]
       clear e8 e9 ah ai a3 a4 a5 a9 aS a8 hF a1 a2 b1 b2 g1 g2
       refine' tkS 14 rfl x9 v9 (fun bw p=>?_)
       have aj:=p.below _ _ aw au
       have u:=XFf (J:=J) p j9
       refine⟨aj,?_⟩
       try simp only[putA]
       replace f8:=X3f f8 u
       replace f9:=X0L f9 u
       replace x:=X0L x u
       replace x9:=XFg p v9
       replace I:=XFh I p n1.symm
       replace M:=XFh M p n2.symm
       clear u p
       refine' tkS 15 rfl I aa (fun bx p=>?_)
       have af:=p.below _ _ ac aj
       have u:=XFf (J:=J) p ax
       refine⟨af,?_⟩
       try simp only[putA]
       replace f8:=X3f f8 u
       replace f9:=X0L f9 u
       replace x:=X0L x u
       replace I:=XFg p aa
       replace x9:=XFh x9 p n1
       replace M:=XFh M p n3.symm
       clear u p
       refine' tkS 16 rfl M ab (fun bL p=>?_)
       have a7:=p.below _ _ ad af
       have u:=XFf (J:=J) p ay
       refine⟨a7,?_⟩
       try simp only[putA]
       replace f8:=X3f f8 u
       replace f9:=X0L f9 u
       replace x:=X0L x u
       replace M:=XFg p ab
       replace x9:=XFh x9 p n2
       replace I:=XFh I p n3
       clear u p
       refine' tk 17 rfl a7 ?_
       try simp only[putA]
       refine wpAnyH_done (by kernel_rfl) ?_ _
       have P:=hid (X3s (K:=N0) f8 (fun _ _ h=>h.elim))
       have U:=hid (X0Q (K:=N0) f9 (fun _ _ h=>h.elim))
       have O:=hid (X0Q (K:=N0) x (fun _ _ h=>h.elim))
       have N:=hid x9
       have a0:=hid I
       have R:=hid M
       have qz:=a7
       clear f8 f9 x x9 I M au aj af a7 aT n1 n2 n3 j9 ax ay aw ac ad aU v9 aa ab
       replace hT:=hid (tabs_next hT.out qz)
       replace rs:=hid (X08 rs.out qz)
       replace ri:=hid (X01 ri.out qz)
       replace ro:=hid (X01 ro.out qz)
       replace x0:=hid (XFa x0.out qz)
       replace x1:=hid (XFa x1.out qz)
       replace x2:=hid (XFa x2.out qz)
       replace rf:=hid (X01 rf.out qz)
       replace rt:=hid (X08 rt.out qz)
       replace rj:=hid (X01 rj.out qz)
       replace rp:=hid (X01 rp.out qz)
       replace xt:=hid (XFa xt.out qz)
       replace xj:=hid (XFa xj.out qz)
       replace xp:=hid (XFa xp.out qz)
       replace bq:=hid (X05 bq.out qz)
       clear qz
       obtain⟨_,⟨tp,tc,g9,_⟩,aI,_,_⟩:=XFp rt.out
       obtain⟨_,⟨vp,vc,k9,_⟩,aM,_,_⟩:=XFp P.out
       have k1:=(XG0 O.out).2
       replace g9:=hid g9
       replace aI:=hid aI
       replace k9:=hid k9
       replace aM:=hid aM
       replace k1:=hid k1
       go_upto_region 6 with(fail)
       refine wp_region_held_drew (S:=fun W=>Bx Tryz.prog W p9 XT 48∧Bx Tryz.prog W aO bJ 48∧Bx Tryz.prog W az bK 49∧W.cell? ⟨p9,9,none⟩=some (.slice tp t'.pend.length tc)∧W.cell? ⟨p9,10,none⟩=some (.bool t'.ended)∧W.cell? ⟨aO,9,none⟩=some (.slice vp t'.pend.length vc)∧W.cell? ⟨aO,10,none⟩=some (.bool t'.ended)∧W.cell? ⟨az,1,none⟩=some (.bool zc.closed)) (by kernel_rfl) ⟨XFa xt.out (Below.refl _ _).drew,XFa N.out (Below.refl _ _).drew,XFa R.out (Below.refl _ _).drew,XFe xt.out 9 _ g9.out,XFe xt.out 10 _ aI.out,XFe N.out 9 _ k9.out,XFe N.out 10 _ aM.out,XFe R.out 1 _ k1.out⟩ (fun hS=>?_)
       replace hT:=hid (tabs_next hT.out (Below.refl _ _).drew)
       replace rs:=hid (X08 rs.out (Below.refl _ _).drew)
       replace ri:=hid (X01 ri.out (Below.refl _ _).drew)
       replace ro:=hid (X01 ro.out (Below.refl _ _).drew)
       replace x0:=hid (XFa x0.out (Below.refl _ _).drew)
       replace x1:=hid (XFa x1.out (Below.refl _ _).drew)
       replace x2:=hid (XFa x2.out (Below.refl _ _).drew)
       replace rf:=hid (X01 rf.out (Below.refl _ _).drew)
       replace rt:=hid (X08 rt.out (Below.refl _ _).drew)
       replace rj:=hid (X01 rj.out (Below.refl _ _).drew)
       replace rp:=hid (X01 rp.out (Below.refl _ _).drew)
       replace xt:=hid (XFa xt.out (Below.refl _ _).drew)
       replace xj:=hid (XFa xj.out (Below.refl _ _).drew)
       replace xp:=hid (XFa xp.out (Below.refl _ _).drew)
       replace P:=hid (X08 P.out (Below.refl _ _).drew)
       replace U:=hid (X01 U.out (Below.refl _ _).drew)
       replace O:=hid (X01 O.out (Below.refl _ _).drew)
       replace N:=hid (XFa N.out (Below.refl _ _).drew)
       replace a0:=hid (XFa a0.out (Below.refl _ _).drew)
       replace R:=hid (XFa R.out (Below.refl _ _).drew)
       replace bq:=hid (X05 bq.out (Below.refl _ _).drew)
       refine' tk 0 rfl hS ?_
       try simp only[putA]
       refine' tk 1 rfl hS ?_
       try simp only[putA]
       refine' tk 2 rfl hS ?_
       try simp only[putA]
       refine' tk 3 rfl hS ?_
       try simp only[putA]
       refine' tkL 4 rfl (fun _ h=>h.1) hS ?_
       try simp only[putA]
       refine' tkL 6 rfl (fun _ h=>h.2.1) hS ?_
       try simp only[putA]
       refine rdy 5 rfl fun K hK=>?_
       go_simp
       go_at_call 20
       refine(ak.out _ (bL).drew hT.out rt.out).mono ?_
       rintro e bP ⟨rfl,D⟩
       go_wp2_with fail
       refine hK.out _ _ (⟨XFa hS.1 D,XFa hS.2.1 D,XFa hS.2.2.1 D,XFe (XFa hS.1 D) 9 _ g9.out,XFe (XFa hS.1 D) 10 _ aI.out,XFe (XFa hS.2.1 D) 9 _ k9.out,XFe (XFa hS.2.1 D) 10 _ aM.out,XFe (XFa hS.2.2.1 D) 1 _ k1.out⟩) (fun hSn=>?_)
       clear hK K hS
       have hS:=hSn
       clear hSn
       try simp only[putA]
       replace hT:=hid (tabs_next hT.out D)
       replace rs:=hid (X08 rs.out D)
       replace ri:=hid (X01 ri.out D)
       replace ro:=hid (X01 ro.out D)
       replace x0:=hid (XFa x0.out D)
       replace x1:=hid (XFa x1.out D)
       replace x2:=hid (XFa x2.out D)
       replace rf:=hid (X01 rf.out D)
       replace rt:=hid (X08 rt.out D)
       replace rj:=hid (X01 rj.out D)
       replace rp:=hid (X01 rp.out D)
       replace xt:=hid (XFa xt.out D)
       replace xj:=hid (XFa xj.out D)
       replace xp:=hid (XFa xp.out D)
       replace P:=hid (X08 P.out D)
       replace U:=hid (X01 U.out D)
       replace O:=hid (X01 O.out D)
       replace N:=hid (XFa N.out D)
       replace a0:=hid (XFa a0.out D)
       replace R:=hid (XFa R.out D)
       replace bq:=hid (X05 bq.out D)
       clear D
       refine rdy 7 rfl fun K hK=>?_
       go_simp
       go_at_call 20
       refine(ak.out _ bP hT.out P.out).mono ?_
       rintro e bQ ⟨rfl,E⟩
       go_wp2_with fail
       refine hK.out _ _ (⟨XFa hS.1 E,XFa hS.2.1 E,XFa hS.2.2.1 E,XFe (XFa hS.1 E) 9 _ g9.out,XFe (XFa hS.1 E) 10 _ aI.out,XFe (XFa hS.2.1 E) 9 _ k9.out,XFe (XFa hS.2.1 E) 10 _ aM.out,XFe (XFa hS.2.2.1 E) 1 _ k1.out⟩) (fun hSn=>?_)
       clear hK K hS
       have hS:=hSn
       clear hSn
       try simp only[putA]
       replace hT:=hid (tabs_next hT.out E)
       replace rs:=hid (X08 rs.out E)
       replace ri:=hid (X01 ri.out E)
       replace ro:=hid (X01 ro.out E)
       replace x0:=hid (XFa x0.out E)
       replace x1:=hid (XFa x1.out E)
       replace x2:=hid (XFa x2.out E)
       replace rf:=hid (X01 rf.out E)
       replace rt:=hid (X08 rt.out E)
       replace rj:=hid (X01 rj.out E)
       replace rp:=hid (X01 rp.out E)
       replace xt:=hid (XFa xt.out E)
       replace xj:=hid (XFa xj.out E)
       replace xp:=hid (XFa xp.out E)
       replace P:=hid (X08 P.out E)
       replace U:=hid (X01 U.out E)
       replace O:=hid (X01 O.out E)
       replace N:=hid (XFa N.out E)
       replace a0:=hid (XFa a0.out E)
       replace R:=hid (XFa R.out E)
       replace bq:=hid (X05 bq.out E)
       clear E
       refine' tk 8 rfl hS ?_
       try simp only[putA]
       refine' tk 9 rfl hS ?_
       try simp only[putA]
       refine' tk 10 rfl hS ?_
       try simp only[putA]
       refine' tk 11 rfl hS ?_
       try simp only[putA]
       refine' tk 12 rfl hS ?_
       try simp only[putA]
       refine' tk 13 rfl hS ?_
       try simp only[putA]
       refine' tk 14 rfl hS ?_
       try simp only[putA]
       refine' tk 15 rfl hS ?_
       try simp only[putA]
       refine' tk 16 rfl hS ?_
       try simp only[putA]
       refine' tk 17 rfl hS ?_
       try simp only[putA]
       refine' tk 18 rfl hS ?_
       try simp only[putA]
       refine' tk 19 rfl hS ?_
       try simp only[putA]
       refine' tk 20 rfl hS ?_
       try simp only[putA]
       refine' tk 21 rfl hS ?_
       try simp only[putA]
       refine' tk 22 rfl hS ?_
       try simp only[putA]
       refine' tk 23 rfl hS ?_
       try simp only[putA]
       refine' tk 24 rfl hS ?_
       try simp only[putA]
       refine' tk 25 rfl hS ?_
       try simp only[putA]
       refine' tk 26 rfl hS ?_
       try simp only[putA]
       refine' tkL 27 rfl (fun _ h=>h.2.2.1) hS ?_
       try simp only[putA]
       refine rdy 28 rfl fun K hK=>?_
       go_simp
       go_at_call 31
       refine(aG.out _ bQ O.out).mono ?_
       rintro e w12 ⟨rfl,G⟩
       go_wp2_with fail
       refine hK.out _ _ (⟨XFa hS.1 G,XFa hS.2.1 G,XFa hS.2.2.1 G,XFe (XFa hS.1 G) 9 _ g9.out,XFe (XFa hS.1 G) 10 _ aI.out,XFe (XFa hS.2.1 G) 9 _ k9.out,XFe (XFa hS.2.1 G) 10 _ aM.out,XFe (XFa hS.2.2.1 G) 1 _ k1.out⟩) (fun hSn=>?_)
       clear hK K hS
       have hS:=hSn
       clear hSn
       try simp only[putA]
       replace hT:=hid (tabs_next hT.out G)
       replace rs:=hid (X08 rs.out G)
       replace ri:=hid (X01 ri.out G)
       replace ro:=hid (X01 ro.out G)
       replace x0:=hid (XFa x0.out G)
       replace x1:=hid (XFa x1.out G)
       replace x2:=hid (XFa x2.out G)
       replace rf:=hid (X01 rf.out G)
       replace rt:=hid (X08 rt.out G)
       replace rj:=hid (X01 rj.out G)
       replace rp:=hid (X01 rp.out G)
       replace xt:=hid (XFa xt.out G)
       replace xj:=hid (XFa xj.out G)
       replace xp:=hid (XFa xp.out G)
       replace P:=hid (X08 P.out G)
       replace U:=hid (X01 U.out G)
       replace O:=hid (X01 O.out G)
       replace N:=hid (XFa N.out G)
       replace a0:=hid (XFa a0.out G)
       replace R:=hid (XFa R.out G)
       replace bq:=hid (X05 bq.out G)
       clear G
       refine' tk 29 rfl hS ?_
       try simp only[putA]
       refine' tk 30 rfl hS ?_
       try simp only[putA]
       refine' tk 31 rfl hS ?_
       try simp only[putA]
       refine' tk 32 rfl hS ?_
       try simp only[putA]
       refine' tk 33 rfl hS ?_
       try simp only[putA]
       refine' tk 34 rfl hS ?_
       try simp only[putA]
       refine wpAnyH_done (by kernel_rfl) ?_ _
       clear hS
       go_upto_region 8 with(fail)
       have bB:=XFe x1.out 0 _ aq.out
       by_cases hi':i.L= []
       ·have bE:i.L.length=0:=by rw[hi'];rfl
        have bF:((i.L.length:Int) == 0)=true:=by rw[bE];rfl
        have bn:(i.L.length:Int)=0:=by omega
        have bG:=aJ.out hi'
        have bS:=XFe x1.out 1 _ ao.out
        subst bG
        have bX:=X9k i.closed
        go_wp2_with fail
        go_ret
        exact⟨rfl,bq.out⟩
       ·have bn: ¬(i.L.length:Int)=0:=by have:=List.length_pos_iff.2 hi';omega
        have bF:((i.L.length:Int) == 0)=false:=beq_eq_false_iff_ne.2 bn
        have hr: ∃i3:Ch,ok=true∧t'.ended=false∧Stg.stepS s ⟨i.L,!i.closed⟩ o=(t',i3,o,true)∧i3.closed=(!i.closed)∧i3.L.length+1=i.L.length:=by
         cases hL:i.L with
         | nil=>exact absurd hL hi'
         |
          cons b r=>
          obtain⟨h1,h2,h3⟩:=aK.out b r hL
          rw[←hL]
          exact⟨⟨r,!i.closed⟩,h1,h2,h3,rfl,by rw[hL];rfl⟩
        obtain⟨i3,rfl,be,bp,b8,b9⟩:=hr
        replace be:=hid be
        replace b9:=hid b9
        replace b8:=hid b8
        replace a6:=a6.out
        rw[bp] at a6
        unfold XeD at a6
        dsimp only at a6
        replace a6:=hid a6
        go_upto_region 10 with(fail)
        clear bp aJ aK bB
        go_upto_region 10 with(fail)
        replace hT:=hid (tabs_next hT.out (Below.refl _ _).drew)
        replace rs:=hid (X08 rs.out (Below.refl _ _).drew)
        replace ri:=hid (X01 ri.out (Below.refl _ _).drew)
        replace ro:=hid (X01 ro.out (Below.refl _ _).drew)
        replace x0:=hid (XFa x0.out (Below.refl _ _).drew)
        replace x1:=hid (XFa x1.out (Below.refl _ _).drew)
        replace x2:=hid (XFa x2.out (Below.refl _ _).drew)
        replace rf:=hid (X01 rf.out (Below.refl _ _).drew)
        replace rt:=hid (X08 rt.out (Below.refl _ _).drew)
        replace rj:=hid (X01 rj.out (Below.refl _ _).drew)
        replace rp:=hid (X01 rp.out (Below.refl _ _).drew)
        replace xt:=hid (XFa xt.out (Below.refl _ _).drew)
        replace xj:=hid (XFa xj.out (Below.refl _ _).drew)
        replace xp:=hid (XFa xp.out (Below.refl _ _).drew)
        replace P:=hid (X08 P.out (Below.refl _ _).drew)
        replace U:=hid (X01 U.out (Below.refl _ _).drew)
        replace O:=hid (X01 O.out (Below.refl _ _).drew)
        replace N:=hid (XFa N.out (Below.refl _ _).drew)
        replace a0:=hid (XFa a0.out (Below.refl _ _).drew)
        replace R:=hid (XFa R.out (Below.refl _ _).drew)
        replace bq:=hid (X05 bq.out (Below.refl _ _).drew)
        have aU:=hid (show w.heap.size≤(w12).drew.heap.size from bq.out.size)
        refine RgA.X3b (J0:=fun _=>False) (X:= [0,1,2,3,4,5,6,7,8,9,10,11,12,13,17,18,19]) (Y:= [14,15,16]) (A:= [17,18,19]) (F:=fun fk J v wz=>match fk with | 0=>v= .agg X | 1=>v= .agg X | 2=>v= .pointer (some ⟨w.heap.size+1,0,none⟩) | 3=>v= .slice pi i.L.length ki | 4=>v= .pointer (some ⟨w.heap.size+1,1,none⟩) | 5=>v= .bool i.closed | 6=>v= .bool (!i.closed) | 7=>v= .agg #[.slice pi i.L.length ki, .bool (!i.closed)] | 8=>v= .agg #[.slice pi i.L.length ki, .bool (!i.closed)] | 9=>v= .agg Z | 10=>v= .agg Z | 11=>FT (t',i3,o,true) J v wz | 12=>FT (t',i3,o,true) J v wz | 13=>RS J wz v t' | 14=>RCh J wz v i3 | 15=>RCh J wz v o | 16=>v= .bool true | 17=>FPx Tryz.prog (w12).drew.heap.size zeroS 48 v wz | 18=>FPx Tryz.prog (w12).drew.heap.size zeroC 49 v wz | 19=>FPx Tryz.prog (w12).drew.heap.size zeroC 49 v wz | _=>True) _ (by kernel_rfl) (by kernel_rfl) (by kernel_rfl) (by decide) (fun c a d v wz h=>by cases d <;> exact h) (fun _ h=>h.elim) ?stableV ?freshV ?selfV ?stepV ?pureV ?finV
        case stableV=>
         intro k J v wz bz h hb
         match k,h with
         | 0,h=>exact h
         | 1,h=>exact h
         | 2,h=>exact h
         | 3,h=>exact h
         | 4,h=>exact h
         | 5,h=>exact h
         | 6,h=>exact h
         | 7,h=>exact h
         | 8,h=>exact h
         | 9,h=>exact h
         | 10,h=>exact h
         | 11,h=>exact X2s h hb
         | 12,h=>exact X2s h hb
         | 13,h=>exact X08 h hb
         | 14,h=>exact X01 h hb
         | 15,h=>exact X01 h hb
         | 16,h=>exact h
         | 17,h=>exact XFX h hb
         | 18,h=>exact XFX h hb
         | 19,h=>exact XFX h hb
         | _+20,h=>trivial
        case freshV=>
         intro k J v wz p h hp
         match k,h with
         | 0,h=>exact h
         | 1,h=>exact h
         | 2,h=>exact h
         | 3,h=>exact h
         | 4,h=>exact h
         | 5,h=>exact h
         | 6,h=>exact h
         | 7,h=>exact h
         | 8,h=>exact h
         | 9,h=>exact h
         | 10,h=>exact h
         | 11,h=>exact X2t h hp
         | 12,h=>exact X2t h hp
         | 13,h=>exact X5L h hp
         | 14,h=>exact X2b h hp
         | 15,h=>exact X2b h hp
         | 16,h=>exact h
         | 17,h=>exact h
         | 18,h=>exact h
         | 19,h=>exact h
         | _+20,h=>trivial
        case selfV=>
         intro k hk J J' v wz h
         simp only[List.mem_cons,List.not_mem_nil,or_false] at hk
         rcases hk with rfl | rfl | rfl <;> exact h
        case stepV=>
         simp only[List.cons_append,List.nil_append]
         refine RgA.Steps.cons (o:=⟨_,_,_,_,_,_⟩) rfl ?_ (RgA.Steps.cons (o:=⟨_,_,_,_,_,_⟩) rfl ?_ (RgA.Steps.cons (o:=⟨_,_,_,_,_,_⟩) rfl ?_ (RgA.Steps.cons (o:=⟨_,_,_,_,_,_⟩) rfl ?_ (RgA.Steps.cons (o:=⟨_,_,_,_,_,_⟩) rfl ?_ (RgA.Steps.cons (o:=⟨_,_,_,_,_,_⟩) rfl ?_ (RgA.Steps.cons (o:=⟨_,_,_,_,_,_⟩) rfl ?_ (RgA.Steps.cons (o:=⟨_,_,_,_,_,_⟩) rfl ?_ (RgA.Steps.cons (o:=⟨_,_,_,_,_,_⟩) rfl ?_ (RgA.Steps.cons (o:=⟨_,_,_,_,_,_⟩) rfl ?_ (RgA.Steps.cons (o:=⟨_,_,_,_,_,_⟩) rfl ?_ (RgA.Steps.cons (o:=⟨_,_,_,_,_,_⟩) rfl ?_ (RgA.Steps.cons (o:=⟨_,_,_,_,_,_⟩) rfl ?_ (RgA.Steps.cons (o:=⟨_,_,_,_,_,_⟩) rfl ?_ (RgA.Steps.cons (o:=⟨_,_,_,_,_,_⟩) rfl ?_ (RgA.Steps.cons (o:=⟨_,_,_,_,_,_⟩) rfl ?_ (RgA.Steps.cons (o:=⟨_,_,_,_,_,_⟩) rfl ?_ (RgA.Steps.cons (o:=⟨_,_,_,_,_,_⟩) rfl ?_ (RgA.Steps.cons (o:=⟨_,_,_,_,_,_⟩) rfl ?_ (RgA.Steps.cons (o:=⟨_,_,_,_,_,_⟩) rfl ?_ RgA.Steps.nil)))))))))))))))))))
         ·intro y wz J hJ g f hd K' hK
          rw[RgA.X0q _ [(0,125),(1,126),(2,127),(3,128),(4,129),(5,130),(6,131),(7,132),(8,133),(9,134),(10,135),(11,136),(12,124),(13,137),(17,16),(18,17),(19,18),(14,138),(15,139),(16,140)] (by kernel_rfl)] at hK ⊢
          simp only[RgA.mkL,List.foldl_cons,List.foldl_nil,List.setIfInBounds_toArray,List.set_cons_succ,List.set_cons_zero] at hK ⊢
          refine atL (XFa x0.out f) ?_
          have H:=hK.out (.agg X) wz (rfl) (Below.refl _ _) (fun h=>by simp at h)
          simp only[Act.put,List.setIfInBounds_toArray,List.set_cons_succ,List.set_cons_zero] at H
          exact H
         ·intro y wz J hJ g f hd K' hK
          have d0:(y 0)= .agg X:=hd 0 (by kernel_rfl)
          rw[RgA.X0q _ [(0,125),(1,126),(2,127),(3,128),(4,129),(5,130),(6,131),(7,132),(8,133),(9,134),(10,135),(11,136),(12,124),(13,137),(17,16),(18,17),(19,18),(14,138),(15,139),(16,140)] (by kernel_rfl)] at hK ⊢
          simp only[RgA.mkL,List.foldl_cons,List.foldl_nil,List.setIfInBounds_toArray,List.set_cons_succ,List.set_cons_zero] at hK ⊢
          rw[d0] at hK ⊢
          go_simp
          refine(X4j (X08 rs.out f)).mono ?_
          rintro e w1 ⟨rfl,q0⟩
          go_wp2_with fail
          have H:=hK.out (.agg X) w1 (rfl) (q0) (fun h=>by simp at h)
          simp only[Act.put,List.setIfInBounds_toArray,List.set_cons_succ,List.set_cons_zero] at H
          exact H
         ·intro y wz J hJ g f hd K' hK
          rw[RgA.X0q _ [(0,125),(1,126),(2,127),(3,128),(4,129),(5,130),(6,131),(7,132),(8,133),(9,134),(10,135),(11,136),(12,124),(13,137),(17,16),(18,17),(19,18),(14,138),(15,139),(16,140)] (by kernel_rfl)] at hK ⊢
          simp only[RgA.mkL,List.foldl_cons,List.foldl_nil,List.setIfInBounds_toArray,List.set_cons_succ,List.set_cons_zero] at hK ⊢
          go_simp
          have H:=hK.out (.pointer (some ⟨w.heap.size+1,0,none⟩)) wz (rfl) (Below.refl _ _) (fun h=>by simp at h)
          simp only[Act.put,List.setIfInBounds_toArray,List.set_cons_succ,List.set_cons_zero] at H
          exact H
         ·intro y wz J hJ g f hd K' hK
          have d2:(y 2)= .pointer (some ⟨w.heap.size+1,0,none⟩):=hd 2 (by kernel_rfl)
          rw[RgA.X0q _ [(0,125),(1,126),(2,127),(3,128),(4,129),(5,130),(6,131),(7,132),(8,133),(9,134),(10,135),(11,136),(12,124),(13,137),(17,16),(18,17),(19,18),(14,138),(15,139),(16,140)] (by kernel_rfl)] at hK ⊢
          simp only[RgA.mkL,List.foldl_cons,List.foldl_nil,List.setIfInBounds_toArray,List.set_cons_succ,List.set_cons_zero] at hK ⊢
          rw[d2] at hK ⊢
          have cx:=XFe (XFa x1.out f) 0 _ aq.out
          go_simp
          have H:=hK.out (.slice pi i.L.length ki) wz (rfl) (Below.refl _ _) (fun h=>by simp at h)
          simp only[Act.put,List.setIfInBounds_toArray,List.set_cons_succ,List.set_cons_zero] at H
          exact H
         ·intro y wz J hJ g f hd K' hK
          rw[RgA.X0q _ [(0,125),(1,126),(2,127),(3,128),(4,129),(5,130),(6,131),(7,132),(8,133),(9,134),(10,135),(11,136),(12,124),(13,137),(17,16),(18,17),(19,18),(14,138),(15,139),(16,140)] (by kernel_rfl)] at hK ⊢
          simp only[RgA.mkL,List.foldl_cons,List.foldl_nil,List.setIfInBounds_toArray,List.set_cons_succ,List.set_cons_zero] at hK ⊢
          go_simp
          have H:=hK.out (.pointer (some ⟨w.heap.size+1,1,none⟩)) wz (rfl) (Below.refl _ _) (fun h=>by simp at h)
          simp only[Act.put,List.setIfInBounds_toArray,List.set_cons_succ,List.set_cons_zero] at H
          exact H
         ·intro y wz J hJ g f hd K' hK
          have d4:(y 4)= .pointer (some ⟨w.heap.size+1,1,none⟩):=hd 4 (by kernel_rfl)
          rw[RgA.X0q _ [(0,125),(1,126),(2,127),(3,128),(4,129),(5,130),(6,131),(7,132),(8,133),(9,134),(10,135),(11,136),(12,124),(13,137),(17,16),(18,17),(19,18),(14,138),(15,139),(16,140)] (by kernel_rfl)] at hK ⊢
          simp only[RgA.mkL,List.foldl_cons,List.foldl_nil,List.setIfInBounds_toArray,List.set_cons_succ,List.set_cons_zero] at hK ⊢
          rw[d4] at hK ⊢
          have cx:=XFe (XFa x1.out f) 1 _ ao.out
          go_simp
          have H:=hK.out (.bool i.closed) wz (rfl) (Below.refl _ _) (fun h=>by simp at h)
          simp only[Act.put,List.setIfInBounds_toArray,List.set_cons_succ,List.set_cons_zero] at H
          exact H
         ·intro y wz J hJ g f hd K' hK
          have d5:(y 5)= .bool i.closed:=hd 5 (by kernel_rfl)
          rw[RgA.X0q _ [(0,125),(1,126),(2,127),(3,128),(4,129),(5,130),(6,131),(7,132),(8,133),(9,134),(10,135),(11,136),(12,124),(13,137),(17,16),(18,17),(19,18),(14,138),(15,139),(16,140)] (by kernel_rfl)] at hK ⊢
          simp only[RgA.mkL,List.foldl_cons,List.foldl_nil,List.setIfInBounds_toArray,List.set_cons_succ,List.set_cons_zero] at hK ⊢
          rw[d5] at hK ⊢
          go_simp
          have H:=hK.out (.bool (!i.closed)) wz (rfl) (Below.refl _ _) (fun h=>by simp at h)
          simp only[Act.put,List.setIfInBounds_toArray,List.set_cons_succ,List.set_cons_zero] at H
          exact H
         ·intro y wz J hJ g f hd K' hK
          have d3:(y 3)= .slice pi i.L.length ki:=hd 3 (by kernel_rfl)
          have d6:(y 6)= .bool (!i.closed):=hd 6 (by kernel_rfl)
          rw[RgA.X0q _ [(0,125),(1,126),(2,127),(3,128),(4,129),(5,130),(6,131),(7,132),(8,133),(9,134),(10,135),(11,136),(12,124),(13,137),(17,16),(18,17),(19,18),(14,138),(15,139),(16,140)] (by kernel_rfl)] at hK ⊢
          simp only[RgA.mkL,List.foldl_cons,List.foldl_nil,List.setIfInBounds_toArray,List.set_cons_succ,List.set_cons_zero] at hK ⊢
          rw[d3,d6] at hK ⊢
          refine atO (XGY wz) ?_
          have H:=hK.out (.agg #[.slice pi i.L.length ki, .bool (!i.closed)]) wz (rfl) (Below.refl _ _) (fun h=>by simp at h)
          simp only[Act.put,List.setIfInBounds_toArray,List.set_cons_succ,List.set_cons_zero] at H
          exact H
         ·intro y wz J hJ g f hd K' hK
          have d7:(y 7)= .agg #[.slice pi i.L.length ki, .bool (!i.closed)]:=hd 7 (by kernel_rfl)
          rw[RgA.X0q _ [(0,125),(1,126),(2,127),(3,128),(4,129),(5,130),(6,131),(7,132),(8,133),(9,134),(10,135),(11,136),(12,124),(13,137),(17,16),(18,17),(19,18),(14,138),(15,139),(16,140)] (by kernel_rfl)] at hK ⊢
          simp only[RgA.mkL,List.foldl_cons,List.foldl_nil,List.setIfInBounds_toArray,List.set_cons_succ,List.set_cons_zero] at hK ⊢
          rw[d7] at hK ⊢
          go_simp
          refine(X2r (X01 rf.out f)).mono ?_
          rintro e w1 ⟨rfl,q0⟩
          go_wp2_with fail
          have H:=hK.out (.agg #[.slice pi i.L.length ki, .bool (!i.closed)]) w1 (rfl) (q0) (fun h=>by simp at h)
          simp only[Act.put,List.setIfInBounds_toArray,List.set_cons_succ,List.set_cons_zero] at H
          exact H
         ·intro y wz J hJ g f hd K' hK
          rw[RgA.X0q _ [(0,125),(1,126),(2,127),(3,128),(4,129),(5,130),(6,131),(7,132),(8,133),(9,134),(10,135),(11,136),(12,124),(13,137),(17,16),(18,17),(19,18),(14,138),(15,139),(16,140)] (by kernel_rfl)] at hK ⊢
          simp only[RgA.mkL,List.foldl_cons,List.foldl_nil,List.setIfInBounds_toArray,List.set_cons_succ,List.set_cons_zero] at hK ⊢
          refine atL (XFa x2.out f) ?_
          have H:=hK.out (.agg Z) wz (rfl) (Below.refl _ _) (fun h=>by simp at h)
          simp only[Act.put,List.setIfInBounds_toArray,List.set_cons_succ,List.set_cons_zero] at H
          exact H
         ·intro y wz J hJ g f hd K' hK
          have d9:(y 9)= .agg Z:=hd 9 (by kernel_rfl)
          rw[RgA.X0q _ [(0,125),(1,126),(2,127),(3,128),(4,129),(5,130),(6,131),(7,132),(8,133),(9,134),(10,135),(11,136),(12,124),(13,137),(17,16),(18,17),(19,18),(14,138),(15,139),(16,140)] (by kernel_rfl)] at hK ⊢
          simp only[RgA.mkL,List.foldl_cons,List.foldl_nil,List.setIfInBounds_toArray,List.set_cons_succ,List.set_cons_zero] at hK ⊢
          rw[d9] at hK ⊢
          go_simp
          refine(X2r (X01 ro.out f)).mono ?_
          rintro e w1 ⟨rfl,q0⟩
          go_wp2_with fail
          have H:=hK.out (.agg Z) w1 (rfl) (q0) (fun h=>by simp at h)
          simp only[Act.put,List.setIfInBounds_toArray,List.set_cons_succ,List.set_cons_zero] at H
          exact H
         ·intro y wz J hJ g f hd K' hK
          have d1:(y 1)= .agg X:=hd 1 (by kernel_rfl)
          have d8:(y 8)= .agg #[.slice pi i.L.length ki, .bool (!i.closed)]:=hd 8 (by kernel_rfl)
          have bC:(y 10)= .agg Z:=hd 10 (by kernel_rfl)
          rw[RgA.X0q _ [(0,125),(1,126),(2,127),(3,128),(4,129),(5,130),(6,131),(7,132),(8,133),(9,134),(10,135),(11,136),(12,124),(13,137),(17,16),(18,17),(19,18),(14,138),(15,139),(16,140)] (by kernel_rfl)] at hK ⊢
          simp only[RgA.mkL,List.foldl_cons,List.foldl_nil,List.setIfInBounds_toArray,List.set_cons_succ,List.set_cons_zero] at hK ⊢
          rw[d1,d8,bC] at hK ⊢
          go_simp
          refine(a6.out J _ _ _ wz (fun j h=>(hJ j h).1) (tabs_next hT.out f) (X08 (X3s rs.out (fun j hj h=>(hJ j h).2.elim (fun h=>h) (fun h=>absurd hj (Nat.not_lt.2 h)))) f) (X01 (X0Q rf.out (fun j hj h=>(hJ j h).2.elim (fun h=>h) (fun h=>absurd hj (Nat.not_lt.2 h)))) f) (X01 (X0Q ro.out (fun j hj h=>(hJ j h).2.elim (fun h=>h) (fun h=>absurd hj (Nat.not_lt.2 h)))) f)).mono ?_
          rintro e w1 ⟨vs,vi,vo,rfl,r1,r2,r3,q0⟩
          go_wp2_with fail
          have H:=hK.out (.tuple #[vs,vi,vo, .bool true]) w1 (⟨vs,vi,vo,rfl,r1,r2,r3⟩) (q0) (fun h=>by simp at h)
          simp only[Act.put,List.setIfInBounds_toArray,List.set_cons_succ,List.set_cons_zero] at H
          exact H
         ·intro y wz J hJ g f hd K' hK
          have bD:FT (t',i3,o,true) J (y 11) wz:=hd 11 (by kernel_rfl)
          rw[RgA.X0q _ [(0,125),(1,126),(2,127),(3,128),(4,129),(5,130),(6,131),(7,132),(8,133),(9,134),(10,135),(11,136),(12,124),(13,137),(17,16),(18,17),(19,18),(14,138),(15,139),(16,140)] (by kernel_rfl)] at hK ⊢
          simp only[RgA.mkL,List.foldl_cons,List.foldl_nil,List.setIfInBounds_toArray,List.set_cons_succ,List.set_cons_zero] at hK ⊢
          go_simp
          have H:=hK.out (y 11) wz (bD) (Below.refl _ _) (fun h=>by simp at h)
          simp only[Act.put,List.setIfInBounds_toArray,List.set_cons_succ,List.set_cons_zero] at H
          exact H
         ·intro y wz J hJ g f hd K' hK
          have d7:FT (t',i3,o,true) J (y 12) wz:=hd 12 (by kernel_rfl)
          rw[RgA.X0q _ [(0,125),(1,126),(2,127),(3,128),(4,129),(5,130),(6,131),(7,132),(8,133),(9,134),(10,135),(11,136),(12,124),(13,137),(17,16),(18,17),(19,18),(14,138),(15,139),(16,140)] (by kernel_rfl)] at hK ⊢
          simp only[RgA.mkL,List.foldl_cons,List.foldl_nil,List.setIfInBounds_toArray,List.set_cons_succ,List.set_cons_zero] at hK ⊢
          obtain⟨vs,vi,vo,e7,r1,r2,r3⟩:=X18 d7
          try dsimp only at e7 r1 r2 r3
          rw[e7] at hK ⊢
          clear e7
          go_simp
          have H:=hK.out (vs) wz (r1) (Below.refl _ _) (fun h=>by simp at h)
          simp only[Act.put,List.setIfInBounds_toArray,List.set_cons_succ,List.set_cons_zero] at H
          exact H
         ·intro y wz J hJ g f hd K' hK
          rw[RgA.X0q _ [(0,125),(1,126),(2,127),(3,128),(4,129),(5,130),(6,131),(7,132),(8,133),(9,134),(10,135),(11,136),(12,124),(13,137),(17,16),(18,17),(19,18),(14,138),(15,139),(16,140)] (by kernel_rfl)] at hK ⊢
          simp only[RgA.mkL,List.foldl_cons,List.foldl_nil,List.setIfInBounds_toArray,List.set_cons_succ,List.set_cons_zero] at hK ⊢
          go_simp
          have H:=hK.out (.pointer (some ⟨wz.heap.size,0,none⟩)) (wz.alloc (.cells zeroS 48)) (⟨_,rfl,f.size,XFb wz_S wz⟩) (X04 wz _) (fun _=>XFZ wz _)
          simp only[Act.put,List.setIfInBounds_toArray,List.set_cons_succ,List.set_cons_zero] at H
          exact H
         ·intro y wz J hJ g f hd K' hK
          rw[RgA.X0q _ [(0,125),(1,126),(2,127),(3,128),(4,129),(5,130),(6,131),(7,132),(8,133),(9,134),(10,135),(11,136),(12,124),(13,137),(17,16),(18,17),(19,18),(14,138),(15,139),(16,140)] (by kernel_rfl)] at hK ⊢
          simp only[RgA.mkL,List.foldl_cons,List.foldl_nil,List.setIfInBounds_toArray,List.set_cons_succ,List.set_cons_zero] at hK ⊢
          go_simp
          have H:=hK.out (.pointer (some ⟨wz.heap.size,0,none⟩)) (wz.alloc (.cells zeroC 49)) (⟨_,rfl,f.size,XFb wz_C wz⟩) (X04 wz _) (fun _=>XFZ wz _)
          simp only[Act.put,List.setIfInBounds_toArray,List.set_cons_succ,List.set_cons_zero] at H
          exact H
         ·intro y wz J hJ g f hd K' hK
          rw[RgA.X0q _ [(0,125),(1,126),(2,127),(3,128),(4,129),(5,130),(6,131),(7,132),(8,133),(9,134),(10,135),(11,136),(12,124),(13,137),(17,16),(18,17),(19,18),(14,138),(15,139),(16,140)] (by kernel_rfl)] at hK ⊢
          simp only[RgA.mkL,List.foldl_cons,List.foldl_nil,List.setIfInBounds_toArray,List.set_cons_succ,List.set_cons_zero] at hK ⊢
          go_simp
          have H:=hK.out (.pointer (some ⟨wz.heap.size,0,none⟩)) (wz.alloc (.cells zeroC 49)) (⟨_,rfl,f.size,XFb wz_C wz⟩) (X04 wz _) (fun _=>XFZ wz _)
          simp only[Act.put,List.setIfInBounds_toArray,List.set_cons_succ,List.set_cons_zero] at H
          exact H
         ·intro y wz J hJ g f hd K' hK
          have d7:FT (t',i3,o,true) J (y 12) wz:=hd 12 (by kernel_rfl)
          rw[RgA.X0q _ [(0,125),(1,126),(2,127),(3,128),(4,129),(5,130),(6,131),(7,132),(8,133),(9,134),(10,135),(11,136),(12,124),(13,137),(17,16),(18,17),(19,18),(14,138),(15,139),(16,140)] (by kernel_rfl)] at hK ⊢
          simp only[RgA.mkL,List.foldl_cons,List.foldl_nil,List.setIfInBounds_toArray,List.set_cons_succ,List.set_cons_zero] at hK ⊢
          obtain⟨vs,vi,vo,e7,r1,r2,r3⟩:=X18 d7
          try dsimp only at e7 r1 r2 r3
          rw[e7] at hK ⊢
          clear e7
          go_simp
          have H:=hK.out (vi) wz (r2) (Below.refl _ _) (fun h=>by simp at h)
          simp only[Act.put,List.setIfInBounds_toArray,List.set_cons_succ,List.set_cons_zero] at H
          exact H
         ·intro y wz J hJ g f hd K' hK
          have d7:FT (t',i3,o,true) J (y 12) wz:=hd 12 (by kernel_rfl)
          rw[RgA.X0q _ [(0,125),(1,126),(2,127),(3,128),(4,129),(5,130),(6,131),(7,132),(8,133),(9,134),(10,135),(11,136),(12,124),(13,137),(17,16),(18,17),(19,18),(14,138),(15,139),(16,140)] (by kernel_rfl)] at hK ⊢
          simp only[RgA.mkL,List.foldl_cons,List.foldl_nil,List.setIfInBounds_toArray,List.set_cons_succ,List.set_cons_zero] at hK ⊢
          obtain⟨vs,vi,vo,e7,r1,r2,r3⟩:=X18 d7
          try dsimp only at e7 r1 r2 r3
          rw[e7] at hK ⊢
          clear e7
          go_simp
          have H:=hK.out (vo) wz (r3) (Below.refl _ _) (fun h=>by simp at h)
          simp only[Act.put,List.setIfInBounds_toArray,List.set_cons_succ,List.set_cons_zero] at H
          exact H
         ·intro y wz J hJ g f hd K' hK
          have d7:FT (t',i3,o,true) J (y 12) wz:=hd 12 (by kernel_rfl)
          rw[RgA.X0q _ [(0,125),(1,126),(2,127),(3,128),(4,129),(5,130),(6,131),(7,132),(8,133),(9,134),(10,135),(11,136),(12,124),(13,137),(17,16),(18,17),(19,18),(14,138),(15,139),(16,140)] (by kernel_rfl)] at hK ⊢
          simp only[RgA.mkL,List.foldl_cons,List.foldl_nil,List.setIfInBounds_toArray,List.set_cons_succ,List.set_cons_zero] at hK ⊢
          obtain⟨vs,vi,vo,e7,r1,r2,r3⟩:=X18 d7
          try dsimp only at e7 r1 r2 r3
          rw[e7] at hK ⊢
          clear e7
          go_simp
          have H:=hK.out (.bool true) wz (rfl) (Below.refl _ _) (fun h=>by simp at h)
          simp only[Act.put,List.setIfInBounds_toArray,List.set_cons_succ,List.set_cons_zero] at H
          exact H
        case pureV=>
         refine RgA.Pures.cons rfl ?_ (RgA.Pures.cons rfl ?_ (RgA.Pures.cons rfl ?_ RgA.Pures.nil))
         ·intro y wz J hd
          have d7:FT (t',i3,o,true) J (y 12) wz:=hd 12 (by kernel_rfl)
          obtain⟨vs,vi,vo,e7,r1,r2,r3⟩:=X18 d7
          refine⟨vi,r2,?_⟩
          rw[RgA.X0q _ [(0,125),(1,126),(2,127),(3,128),(4,129),(5,130),(6,131),(7,132),(8,133),(9,134),(10,135),(11,136),(12,124),(13,137),(17,16),(18,17),(19,18),(14,138),(15,139),(16,140)] (by kernel_rfl)]
          simp only[RgA.mkL,List.foldl_cons,List.foldl_nil,List.setIfInBounds_toArray,List.set_cons_succ,List.set_cons_zero]
          rw[e7]
          refine⟨by kernel_rfl,fun w'=>?_⟩
          go_simp
         ·intro y wz J hd
          have d7:FT (t',i3,o,true) J (y 12) wz:=hd 12 (by kernel_rfl)
          obtain⟨vs,vi,vo,e7,r1,r2,r3⟩:=X18 d7
          refine⟨vo,r3,?_⟩
          rw[RgA.X0q _ [(0,125),(1,126),(2,127),(3,128),(4,129),(5,130),(6,131),(7,132),(8,133),(9,134),(10,135),(11,136),(12,124),(13,137),(17,16),(18,17),(19,18),(14,138),(15,139),(16,140)] (by kernel_rfl)]
          simp only[RgA.mkL,List.foldl_cons,List.foldl_nil,List.setIfInBounds_toArray,List.set_cons_succ,List.set_cons_zero]
          rw[e7]
          refine⟨by kernel_rfl,fun w'=>?_⟩
          go_simp
         ·intro y wz J hd
          have d7:FT (t',i3,o,true) J (y 12) wz:=hd 12 (by kernel_rfl)
          obtain⟨vs,vi,vo,e7,r1,r2,r3⟩:=X18 d7
          refine⟨.bool true,rfl,?_⟩
          rw[RgA.X0q _ [(0,125),(1,126),(2,127),(3,128),(4,129),(5,130),(6,131),(7,132),(8,133),(9,134),(10,135),(11,136),(12,124),(13,137),(17,16),(18,17),(19,18),(14,138),(15,139),(16,140)] (by kernel_rfl)]
          simp only[RgA.mkL,List.foldl_cons,List.foldl_nil,List.setIfInBounds_toArray,List.set_cons_succ,List.set_cons_zero]
          rw[e7]
          refine⟨by kernel_rfl,fun w'=>?_⟩
          go_simp
        intro y T au J aS a8 aT hF a9
        have f8:RS J T (y 13) t':=hF 13 (by decide)
        have f9:RCh J T (y 14) i3:=hF 14 (by decide)
        have x:RCh J T (y 15) o:=hF 15 (by decide)
        have ai:y 16= .bool true:=hF 16 (by decide)
        obtain⟨aZ,a3,aw,x9⟩:FPx Tryz.prog (w12).drew.heap.size zeroS 48 (y 17) T:=hF 17 (by decide)
        obtain⟨ap,a4,ac,I⟩:FPx Tryz.prog (w12).drew.heap.size zeroC 49 (y 18) T:=hF 18 (by decide)
        obtain⟨aY,a5,ad,M⟩:FPx Tryz.prog (w12).drew.heap.size zeroC 49 (y 19) T:=hF 19 (by decide)
        have n1:aZ≠ap:=fun h=>a9 17 (by decide) 18 (by decide) (by decide) (by rw[a3,a4,h])
        have n2:aZ≠aY:=fun h=>a9 17 (by decide) 19 (by decide) (by decide) (by rw[a3,a5,h])
        have n3:ap≠aY:=fun h=>a9 18 (by decide) 19 (by decide) (by decide) (by rw[a4,a5,h])
        have j9:=a8 17 (by decide) aZ a3
        have ax:=a8 18 (by decide) ap a4
        have ay:=a8 19 (by decide) aY a5
        try dsimp only at f8 f9 x ai
        obtain⟨bM,e8,a1,a2⟩:=rs_x f8
        obtain⟨bN,e9,b1,b2,_⟩:=rch_x f9
        obtain⟨c5,ah,g1,g2,_⟩:=rch_x x
        have v9:=wx_S a1 a2
        have aa:=wx_C b1 b2
        have ab:=wx_C g1 g2
        unfold TO17 at v9
        unfold TO16 at aa ab
        rw[e8] at f8
        rw[e9] at f9
        rw[ah] at x
        rw[RgA.X0q _ [(0,125),(1,126),(2,127),(3,128),(4,129),(5,130),(6,131),(7,132),(8,133),(9,134),(10,135),(11,136),(12,124),(13,137),(17,16),(18,17),(19,18),(14,138),(15,139),(16,140)] (by kernel_rfl)]
        simp only[RgA.mkL,List.foldl_cons,List.foldl_nil,List.setIfInBounds_toArray,List.set_cons_succ,List.set_cons_zero]
        rw[a3,a4,a5,e8,e9,ah,ai]
        clear e8 e9 ah ai a3 a4 a5 a9 aS a8 hF a1 a2 b1 b2 g1 g2
        refine' tkS 20 rfl x9 v9 (fun bw p=>?_)
        have aj:=p.below _ _ aw au
        have u:=XFf (J:=J) p j9
        refine⟨aj,?_⟩
        try simp only[putA]
        replace f8:=X3f f8 u
        replace f9:=X0L f9 u
        replace x:=X0L x u
        replace x9:=XFg p v9
        replace I:=XFh I p n1.symm
        replace M:=XFh M p n2.symm
        clear u p
        refine' tkS 21 rfl I aa (fun bx p=>?_)
        have af:=p.below _ _ ac aj
        have u:=XFf (J:=J) p ax
        refine⟨af,?_⟩
        try simp only[putA]
        replace f8:=X3f f8 u
        replace f9:=X0L f9 u
        replace x:=X0L x u
        replace I:=XFg p aa
        replace x9:=XFh x9 p n1
        replace M:=XFh M p n3.symm
        clear u p
        refine' tkS 22 rfl M ab (fun bO p=>?_)
        have a7:=p.below _ _ ad af
        have u:=XFf (J:=J) p ay
        refine⟨a7,?_⟩
        try simp only[putA]
        replace f8:=X3f f8 u
        replace f9:=X0L f9 u
        replace x:=X0L x u
        replace M:=XFg p ab
        replace x9:=XFh x9 p n2
        replace I:=XFh I p n3
        clear u p
        refine' tk 23 rfl a7 ?_
        try simp only[putA]
        refine wpAnyH_done (by kernel_rfl) ?_ _
        have aA:=hid (X3s (K:=N0) f8 (fun _ _ h=>h.elim))
        have aE:=hid (X0Q (K:=N0) f9 (fun _ _ h=>h.elim))
        have aP:=hid (X0Q (K:=N0) x (fun _ _ h=>h.elim))
        have aB:=hid x9
        have ar:=hid I
        have aQ:=hid M
        have qz:=a7
        clear f8 f9 x x9 I M au aj af a7 aT n1 n2 n3 j9 ax ay aw ac ad aU v9 aa ab
        replace hT:=hid (tabs_next hT.out qz)
        replace rs:=hid (X08 rs.out qz)
        replace ri:=hid (X01 ri.out qz)
        replace ro:=hid (X01 ro.out qz)
        replace x0:=hid (XFa x0.out qz)
        replace x1:=hid (XFa x1.out qz)
        replace x2:=hid (XFa x2.out qz)
        replace rf:=hid (X01 rf.out qz)
        replace rt:=hid (X08 rt.out qz)
        replace rj:=hid (X01 rj.out qz)
        replace rp:=hid (X01 rp.out qz)
        replace xt:=hid (XFa xt.out qz)
        replace xj:=hid (XFa xj.out qz)
        replace xp:=hid (XFa xp.out qz)
        replace P:=hid (X08 P.out qz)
        replace U:=hid (X01 U.out qz)
        replace O:=hid (X01 O.out qz)
        replace N:=hid (XFa N.out qz)
        replace a0:=hid (XFa a0.out qz)
        replace R:=hid (XFa R.out qz)
        replace bq:=hid (X05 bq.out qz)
        clear qz
        obtain⟨_,_,aN,_,_⟩:=XFp aA.out
        obtain⟨⟨qi,qk,n0,_⟩,n1⟩:=XG0 aE.out
        have bY:(i3.closed == !i.closed)=true:=by rw[b8.out];exact X9k _
        have c2:IntKind.i64.wrap ((i.L.length:Int) - 1)=(i3.L.length:Int):=by have:=b9.out;rw[IntKind.wrap_i64] <;> omega
        have bZ:((i3.L.length:Int) == (i3.L.length:Int))=true:=by simp
        rw[be.out] at aN
        replace aN:=hid aN
        replace n0:=hid n0
        replace n1:=hid n1
        go_upto_region 11 with(fail)
        refine wp_region_held_drew (S:=fun W=>Bx Tryz.prog W aZ bM 48∧Bx Tryz.prog W p9 XT 48∧Bx Tryz.prog W ap bN 49∧Bx Tryz.prog W (w.heap.size+1) Y 37∧W.cell? ⟨aZ,10,none⟩=some (.bool false)∧W.cell? ⟨ap,1,none⟩=some (.bool i3.closed)∧W.cell? ⟨ap,0,none⟩=some (.slice qi i3.L.length qk)∧W.cell? ⟨w.heap.size+1,1,none⟩=some (.bool i.closed)∧W.cell? ⟨w.heap.size+1,0,none⟩=some (.slice pi i.L.length ki)) (by kernel_rfl) ⟨XFa aB.out (Below.refl _ _).drew,XFa xt.out (Below.refl _ _).drew,XFa ar.out (Below.refl _ _).drew,XFa x1.out (Below.refl _ _).drew,XFe aB.out 10 _ aN.out,XFe ar.out 1 _ n1.out,XFe ar.out 0 _ n0.out,XFe x1.out 1 _ ao.out,XFe x1.out 0 _ aq.out⟩ (fun hS=>?_)
        replace hT:=hid (tabs_next hT.out (Below.refl _ _).drew)
        replace rs:=hid (X08 rs.out (Below.refl _ _).drew)
        replace ri:=hid (X01 ri.out (Below.refl _ _).drew)
        replace ro:=hid (X01 ro.out (Below.refl _ _).drew)
        replace x0:=hid (XFa x0.out (Below.refl _ _).drew)
        replace x1:=hid (XFa x1.out (Below.refl _ _).drew)
        replace x2:=hid (XFa x2.out (Below.refl _ _).drew)
        replace rf:=hid (X01 rf.out (Below.refl _ _).drew)
        replace rt:=hid (X08 rt.out (Below.refl _ _).drew)
        replace rj:=hid (X01 rj.out (Below.refl _ _).drew)
        replace rp:=hid (X01 rp.out (Below.refl _ _).drew)
        replace xt:=hid (XFa xt.out (Below.refl _ _).drew)
        replace xj:=hid (XFa xj.out (Below.refl _ _).drew)
        replace xp:=hid (XFa xp.out (Below.refl _ _).drew)
        replace P:=hid (X08 P.out (Below.refl _ _).drew)
        replace U:=hid (X01 U.out (Below.refl _ _).drew)
        replace O:=hid (X01 O.out (Below.refl _ _).drew)
        replace N:=hid (XFa N.out (Below.refl _ _).drew)
        replace a0:=hid (XFa a0.out (Below.refl _ _).drew)
        replace R:=hid (XFa R.out (Below.refl _ _).drew)
        replace aA:=hid (X08 aA.out (Below.refl _ _).drew)
        replace aE:=hid (X01 aE.out (Below.refl _ _).drew)
        replace aP:=hid (X01 aP.out (Below.refl _ _).drew)
        replace aB:=hid (XFa aB.out (Below.refl _ _).drew)
        replace ar:=hid (XFa ar.out (Below.refl _ _).drew)
        replace aQ:=hid (XFa aQ.out (Below.refl _ _).drew)
        replace bq:=hid (X05 bq.out (Below.refl _ _).drew)
        refine' tk 0 rfl hS ?_
        try simp only[putA]
        refine' tk 1 rfl hS ?_
        try simp only[putA]
        refine' tk 2 rfl hS ?_
        try simp only[putA]
        refine' tk 3 rfl hS ?_
        try simp only[putA]
        refine' tk 4 rfl hS ?_
        try simp only[putA]
        refine' tk 5 rfl hS ?_
        try simp only[putA]
        refine' tk 6 rfl hS ?_
        try simp only[putA]
        refine' tk 7 rfl hS ?_
        try simp only[putA]
        refine' tkL 8 rfl (fun _ h=>h.1) hS ?_
        try simp only[putA]
        refine' tkL 10 rfl (fun _ h=>h.2.1) hS ?_
        try simp only[putA]
        refine rdy 9 rfl fun K hK=>?_
        go_simp
        go_at_call 20
        refine(ak.out _ (bO).drew hT.out aA.out).mono ?_
        rintro e bR ⟨rfl,l⟩
        go_wp2_with fail
        refine hK.out _ _ (⟨XFa hS.1 l,XFa hS.2.1 l,XFa hS.2.2.1 l,XFa hS.2.2.2.1 l,XFe (XFa hS.1 l) 10 _ aN.out,XFe (XFa hS.2.2.1 l) 1 _ n1.out,XFe (XFa hS.2.2.1 l) 0 _ n0.out,XFe (XFa hS.2.2.2.1 l) 1 _ ao.out,XFe (XFa hS.2.2.2.1 l) 0 _ aq.out⟩) (fun hSn=>?_)
        clear hK K hS
        have hS:=hSn
        clear hSn
        try simp only[putA]
        replace hT:=hid (tabs_next hT.out l)
        replace rs:=hid (X08 rs.out l)
        replace ri:=hid (X01 ri.out l)
        replace ro:=hid (X01 ro.out l)
        replace x0:=hid (XFa x0.out l)
        replace x1:=hid (XFa x1.out l)
        replace x2:=hid (XFa x2.out l)
        replace rf:=hid (X01 rf.out l)
        replace rt:=hid (X08 rt.out l)
        replace rj:=hid (X01 rj.out l)
        replace rp:=hid (X01 rp.out l)
        replace xt:=hid (XFa xt.out l)
        replace xj:=hid (XFa xj.out l)
        replace xp:=hid (XFa xp.out l)
        replace P:=hid (X08 P.out l)
        replace U:=hid (X01 U.out l)
        replace O:=hid (X01 O.out l)
        replace N:=hid (XFa N.out l)
        replace a0:=hid (XFa a0.out l)
        replace R:=hid (XFa R.out l)
        replace aA:=hid (X08 aA.out l)
        replace aE:=hid (X01 aE.out l)
        replace aP:=hid (X01 aP.out l)
        replace aB:=hid (XFa aB.out l)
        replace ar:=hid (XFa ar.out l)
        replace aQ:=hid (XFa aQ.out l)
        replace bq:=hid (X05 bq.out l)
        clear l
        refine rdy 11 rfl fun K hK=>?_
        go_simp
        go_at_call 20
        refine(ak.out _ bR hT.out rt.out).mono ?_
        rintro e c6 ⟨rfl,n⟩
        go_wp2_with fail
        refine hK.out _ _ (⟨XFa hS.1 n,XFa hS.2.1 n,XFa hS.2.2.1 n,XFa hS.2.2.2.1 n,XFe (XFa hS.1 n) 10 _ aN.out,XFe (XFa hS.2.2.1 n) 1 _ n1.out,XFe (XFa hS.2.2.1 n) 0 _ n0.out,XFe (XFa hS.2.2.2.1 n) 1 _ ao.out,XFe (XFa hS.2.2.2.1 n) 0 _ aq.out⟩) (fun hSn=>?_)
        clear hK K hS
        have hS:=hSn
        clear hSn
        try simp only[putA]
        replace hT:=hid (tabs_next hT.out n)
        replace rs:=hid (X08 rs.out n)
        replace ri:=hid (X01 ri.out n)
        replace ro:=hid (X01 ro.out n)
        replace x0:=hid (XFa x0.out n)
        replace x1:=hid (XFa x1.out n)
        replace x2:=hid (XFa x2.out n)
        replace rf:=hid (X01 rf.out n)
        replace rt:=hid (X08 rt.out n)
        replace rj:=hid (X01 rj.out n)
        replace rp:=hid (X01 rp.out n)
        replace xt:=hid (XFa xt.out n)
        replace xj:=hid (XFa xj.out n)
        replace xp:=hid (XFa xp.out n)
        replace P:=hid (X08 P.out n)
        replace U:=hid (X01 U.out n)
        replace O:=hid (X01 O.out n)
        replace N:=hid (XFa N.out n)
        replace a0:=hid (XFa a0.out n)
        replace R:=hid (XFa R.out n)
        replace aA:=hid (X08 aA.out n)
        replace aE:=hid (X01 aE.out n)
        replace aP:=hid (X01 aP.out n)
        replace aB:=hid (XFa aB.out n)
        replace ar:=hid (XFa ar.out n)
        replace aQ:=hid (XFa aQ.out n)
        replace bq:=hid (X05 bq.out n)
        clear n
        refine' tk 12 rfl hS ?_
        try simp only[putA]
        refine' tk 13 rfl hS ?_
        try simp only[putA]
        refine' tk 14 rfl hS ?_
        try simp only[putA]
        refine' tk 15 rfl hS ?_
        try simp only[putA]
        refine' tk 16 rfl hS ?_
        try simp only[putA]
        refine' tk 17 rfl hS ?_
        try simp only[putA]
        refine' tk 18 rfl hS ?_
        try simp only[putA]
        refine' tk 19 rfl hS ?_
        try simp only[putA]
        refine' tk 20 rfl hS ?_
        try simp only[putA]
        refine' tk 21 rfl hS ?_
        try simp only[putA]
        refine' tk 22 rfl hS ?_
        try simp only[putA]
        refine' tk 23 rfl hS ?_
        try simp only[putA]
        refine' tk 24 rfl hS ?_
        try simp only[putA]
        refine' tk 25 rfl hS ?_
        try simp only[putA]
        refine' tk 26 rfl hS ?_
        try simp only[putA]
        refine' tk 27 rfl hS ?_
        try simp only[putA]
        refine' tk 28 rfl hS ?_
        try simp only[putA]
        refine' tk 29 rfl hS ?_
        try simp only[putA]
        refine' tk 30 rfl hS ?_
        try simp only[putA]
        refine' tk 31 rfl hS ?_
        try simp only[putA]
        refine' tk 32 rfl hS ?_
        try simp only[putA]
        refine' tk 33 rfl hS ?_
        try simp only[putA]
        refine' tk 34 rfl hS ?_
        try simp only[putA]
        refine' tk 35 rfl hS ?_
        try simp only[putA]
        refine' tk 36 rfl hS ?_
        try simp only[putA]
        refine' tk 37 rfl hS ?_
        try simp only[putA]
        refine wpAnyH_done (by kernel_rfl) ?_ _
        clear hS
        go_wp2_with fail
        go_ret
        exact⟨rfl,bq.out⟩
     ·have bH:(0:Int)<(s.pend.length:Int):=by have:=List.length_pos_iff.2 hp;omega
      go_wp2_with fail
      go_ret
      exact⟨rfl,bq.out⟩
end Go.Proofs.YtkofnpkopbnocaaGreatDoor
