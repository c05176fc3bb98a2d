import Derived.Test.YtkofnpkopbnocaaGreatDoorStVk
import Derived.Test.YtkofnpkopbnocaaGreatDoorStBk
import Derived.Test.YtkofnpkopbnocaaGreatDoorStMk
set_option maxRecDepth 100000
set_option maxHeartbeats 12800000
namespace Go.Proofs.YtkofnpkopbnocaaGreatDoor
set_option linter.unusedSimpArgs false
set_option linter.unusedVariables false
open Go Go.RowKit Go.Lib
open Mch (MS)
open Stg (Ch St)
theorem stageWaits_walk(hN:NewC17)(hS:SaneC17)(hP:StepC17)(hK:CostC17)(hD:SaneC16)(v:Value)(s:St)(vi:Value)(i:Ch)(vo:Value)(o:Ch)(w:World)(hT:Tabs w)(hv:RS N0 w v s∧I64 s.m.kind)(hi:RCh N0 w vi i∧i.Wf∧i.L.length≤maxLen)(ho:RCh N0 w vo o∧o.Wf∧o.L.length≤maxLen):
 Calls Tryz.prog 6 #[v,vi,vo] w fun e w'=>e= .returned (.bool true)∧Below w.heap.size w w':=by
 obtain⟨rs,aO⟩:=hv
 obtain⟨ri,aN,aP⟩:=hi
 obtain⟨ro,b5,aQ⟩:=ho
 have aq:=hid (fun W h=>X5R hN hP hK W h)
 have a5:=fun W h1 h2 h3=>X8w N0 N0 N0 v s vi i vo o W aP aQ h1 h2 h3
 obtain⟨F,hF⟩: ∃F,(fewS s && fewC i && fewC o)=F:=⟨_,rfl⟩
 rw[hF] at a5
 replace a5:=hid a5
 replace hF:=hid hF
 obtain⟨X,rfl,aX,aY⟩:=rs_x rs
 obtain⟨Y,rfl,a6,aZ,_⟩:=rch_x ri
 obtain⟨Z,rfl,a7,b0,_⟩:=rch_x ro
 obtain⟨W,hW,x0,x1,x2,bq⟩:=three (w:=w) (vx_S aX aY) (vx_C a6 aZ) (vx_C a7 b0)
 unfold TR17 TR16 at *
 replace rs:=X08 rs bq
 replace ri:=X01 ri bq
 replace ro:=X01 ro bq
 replace hT:=tabs_next hT bq
 clear aX aY a6 aZ a7 b0
 replace hW:=hid hW
 replace x0:=hid x0
 replace x1:=hid x1
 replace x2:=hid x2
 replace bq:=hid bq
 replace rs:=hid rs
 replace ri:=hid ri
 replace ro:=hid ro
 replace hT:=hid hT
 replace aO:=hid aO
 replace aN:=hid aN
 replace b5:=hid b5
 replace aP:=hid aP
 replace aQ:=hid aQ
 go_enter Tryz.func6,Tryz.ntmps6
 go_upto_region 1 with(fail)
 rw[hW.out]
 go_wp2_with fail
 refine(aq.out W hT.out).mono ?_
 rintro e w2 ⟨rfl,q2⟩
 replace hT:=hid (tabs_next hT.out q2)
 replace rs:=hid (X08 rs.out q2)
 replace ri:=hid (X01 ri.out q2)
 replace ro:=hid (X01 ro.out q2)
 replace x0:=hid (XFa x0.out q2)
 replace x1:=hid (XFa x1.out q2)
 replace x2:=hid (XFa x2.out q2)
 replace bq:=hid (X05 bq.out q2)
 clear q2
 go_wp2_with (first | refine ldX x0.out ?_ | refine ldX x1.out ?_ | refine ldX x2.out ?_)
 refine(a5.out w2 rs.out ri.out ro.out).mono ?_
 rintro e w3 ⟨rfl,q3⟩
 replace hT:=hid (tabs_next hT.out q3)
 replace rs:=hid (X08 rs.out q3)
 replace ri:=hid (X01 ri.out q3)
 replace ro:=hid (X01 ro.out q3)
 replace x0:=hid (XFa x0.out q3)
 replace x1:=hid (XFa x1.out q3)
 replace x2:=hid (XFa x2.out q3)
 replace bq:=hid (X05 bq.out q3)
 clear q3
 rcases F with _ | _
 ·skip
  go_wp2_with fail
  go_ret
  exact⟨rfl,bq.out⟩
 ·skip
  have ah:=hF.out
  simp only[Bool.and_eq_true] at ah
  have a0:=X3x ah.1.1 aO.out
  have T:=(X1S ah.1.2).1
  have U:=(X1S ah.2).1
  clear hF ah
  replace a0:=hid a0
  replace T:=hid T
  replace U:=hid U
  have G:=fun V Wz t r=>hS N0 V s Wz t a0.out r
  obtain⟨B1,ao⟩: ∃B,Stg.saneS s=B:=⟨_,rfl⟩
  rw[ao] at G
  have I:=fun V Wz r=>hD N0 V i Wz T.out r
  obtain⟨B2,af⟩: ∃B,Stg.saneC i=B:=⟨_,rfl⟩
  rw[af] at I
  have M:=fun V Wz r=>hD N0 V o Wz U.out r
  obtain⟨B3,ag⟩: ∃B,Stg.saneC o=B:=⟨_,rfl⟩
  rw[ag] at M
  replace G:=hid G
  replace ao:=hid ao
  replace I:=hid I
  replace af:=hid af
  replace M:=hid M
  replace ag:=hid ag
  go_wp2_with (first | refine ldX x0.out ?_ | refine ldX x1.out ?_ | refine ldX x2.out ?_)
  refine(X4j rs.out).mono ?_
  rintro e w4 ⟨rfl,q4⟩
  replace hT:=hid (tabs_next hT.out q4)
  replace rs:=hid (X08 rs.out q4)
  replace ri:=hid (X01 ri.out q4)
  replace ro:=hid (X01 ro.out q4)
  replace x0:=hid (XFa x0.out q4)
  replace x1:=hid (XFa x1.out q4)
  replace x2:=hid (XFa x2.out q4)
  replace bq:=hid (X05 bq.out q4)
  clear q4
  go_wp2_with fail
  refine(G.out _ w4 hT.out rs.out).mono ?_
  rintro e w5 ⟨rfl,q5⟩
  replace hT:=hid (tabs_next hT.out q5)
  replace rs:=hid (X08 rs.out q5)
  replace ri:=hid (X01 ri.out q5)
  replace ro:=hid (X01 ro.out q5)
  replace x0:=hid (XFa x0.out q5)
  replace x1:=hid (XFa x1.out q5)
  replace x2:=hid (XFa x2.out q5)
  replace bq:=hid (X05 bq.out q5)
  clear q5
  rcases B1 with _ | _
  ·skip
   go_wp2_with fail
   go_ret
   exact⟨rfl,bq.out⟩
  ·skip
   go_wp2_with (first | refine ldX x0.out ?_ | refine ldX x1.out ?_ | refine ldX x2.out ?_)
   refine(X2r ri.out).mono ?_
   rintro e w6 ⟨rfl,q6⟩
   replace hT:=hid (tabs_next hT.out q6)
   replace rs:=hid (X08 rs.out q6)
   replace ri:=hid (X01 ri.out q6)
   replace ro:=hid (X01 ro.out q6)
   replace x0:=hid (XFa x0.out q6)
   replace x1:=hid (XFa x1.out q6)
   replace x2:=hid (XFa x2.out q6)
   replace bq:=hid (X05 bq.out q6)
   clear q6
   go_wp2_with fail
   refine(I.out _ w6 ri.out).mono ?_
   rintro e w7 ⟨rfl,q7⟩
   replace hT:=hid (tabs_next hT.out q7)
   replace rs:=hid (X08 rs.out q7)
   replace ri:=hid (X01 ri.out q7)
   replace ro:=hid (X01 ro.out q7)
   replace x0:=hid (XFa x0.out q7)
   replace x1:=hid (XFa x1.out q7)
   replace x2:=hid (XFa x2.out q7)
   replace bq:=hid (X05 bq.out q7)
   clear q7
   rcases B2 with _ | _
   ·skip
    go_wp2_with fail
    go_ret
    exact⟨rfl,bq.out⟩
   ·skip
    go_wp2_with (first | refine ldX x0.out ?_ | refine ldX x1.out ?_ | refine ldX x2.out ?_)
    refine(X2r ro.out).mono ?_
    rintro e w8 ⟨rfl,q8⟩
    replace hT:=hid (tabs_next hT.out q8)
    replace rs:=hid (X08 rs.out q8)
    replace ri:=hid (X01 ri.out q8)
    replace ro:=hid (X01 ro.out q8)
    replace x0:=hid (XFa x0.out q8)
    replace x1:=hid (XFa x1.out q8)
    replace x2:=hid (XFa x2.out q8)
    replace bq:=hid (X05 bq.out q8)
    clear q8
    go_wp2_with fail
    refine(M.out _ w8 ro.out).mono ?_
    rintro e w9 ⟨rfl,q9⟩
    replace hT:=hid (tabs_next hT.out q9)
    replace rs:=hid (X08 rs.out q9)
    replace ri:=hid (X01 ri.out q9)
    replace ro:=hid (X01 ro.out q9)
    replace x0:=hid (XFa x0.out q9)
    replace x1:=hid (XFa x1.out q9)
    replace x2:=hid (XFa x2.out q9)
    replace bq:=hid (X05 bq.out q9)
    clear q9
    rcases B3 with _ | _
    ·skip
     go_wp2_with fail
     go_ret
     exact⟨rfl,bq.out⟩
    ·have aa:=fun J V VI VO Wz (oj:Old J Wz) (t:Tabs Wz) r1 r2 r3=>hP J V s VI i VO o Wz t oj a0.out T.out U.out aN.out r1 r2 r3
     have av:=(Stg.X3I s).1 ao.out
     have an:=Stg.Xqz av af.out ag.out
     have a9:=Stg.XBv av af.out ag.out
     have a8:=av.shut
     obtain⟨⟨t,i2,o2,ok⟩,hq⟩: ∃q,Stg.stepS s i o=q:=⟨_,rfl⟩
     rw[hq] at aa an a9
     unfold XeD at aa
     dsimp only at aa an a9
     clear hq av G I M
     obtain⟨_,⟨pp,cp,aG,_⟩,aj,ak,_⟩:=XFp rs.out
     obtain⟨⟨pi,ki,aH,_⟩,a6⟩:=XG0 ri.out
     obtain⟨⟨po,ko,aI,_⟩,a7⟩:=XG0 ro.out
     replace aa:=hid aa
     replace an:=hid an
     replace a9:=hid a9
     replace a8:=hid a8
     replace aG:=hid aG
     replace aj:=hid aj
     replace ak:=hid ak
     replace aH:=hid aH
     replace a6:=hid a6
     replace aI:=hid aI
     replace a7:=hid a7
     go_upto_region 4 with(fail)
     replace hT:=hid (tabs_next hT.out (Below.refl _ _).drew)
     replace rs:=hid (X08 rs.out (Below.refl _ _).drew)
     replace ri:=hid (X01 ri.out (Below.refl _ _).drew)
     replace ro:=hid (X01 ro.out (Below.refl _ _).drew)
     replace x0:=hid (XFa x0.out (Below.refl _ _).drew)
     replace x1:=hid (XFa x1.out (Below.refl _ _).drew)
     replace x2:=hid (XFa x2.out (Below.refl _ _).drew)
     replace bq:=hid (X05 bq.out (Below.refl _ _).drew)
     have bb:=hid (show w.heap.size≤(w9).drew.heap.size from bq.out.size)
     refine RgA.X3b (J0:=fun _=>False) (X:= [0,1,2,3,4,5,6,7,8,12,13,14]) (Y:= [9,10,11]) (A:= [12,13,14]) (F:=fun fk J v wz=>match fk with | 0=>v= .agg X | 1=>v= .agg X | 2=>v= .agg Y | 3=>v= .agg Y | 4=>v= .agg Z | 5=>v= .agg Z | 6=>FT (t,i2,o2,ok) J v wz | 7=>FT (t,i2,o2,ok) J v wz | 8=>RS J wz v t | 9=>RCh J wz v i2 | 10=>RCh J wz v o2 | 11=>v= .bool ok | 12=>FPx Tryz.prog (w9).drew.heap.size zeroS 48 v wz | 13=>FPx Tryz.prog (w9).drew.heap.size zeroC 49 v wz | 14=>FPx Tryz.prog (w9).drew.heap.size zeroC 49 v wz | _=>True) _ (by kernel_rfl) (by kernel_rfl) (by kernel_rfl) (by decide) (fun c a d v wz h=>by cases d <;> exact h) (fun _ h=>h.elim) ?stable ?fresh ?self ?step ?pure ?fin
     case stable=>
      intro k J v wz bn h hb
      match k,h with
      | 0,h=>exact h
      | 1,h=>exact h
      | 2,h=>exact h
      | 3,h=>exact h
      | 4,h=>exact h
      | 5,h=>exact h
      | 6,h=>exact X2s h hb
      | 7,h=>exact X2s h hb
      | 8,h=>exact X08 h hb
      | 9,h=>exact X01 h hb
      | 10,h=>exact X01 h hb
      | 11,h=>exact h
      | 12,h=>exact XFX h hb
      | 13,h=>exact XFX h hb
      | 14,h=>exact XFX h hb
      | _+15,h=>trivial
     case fresh=>
      intro k J v wz p h hp
      match k,h with
      | 0,h=>exact h
      | 1,h=>exact h
      | 2,h=>exact h
      | 3,h=>exact h
      | 4,h=>exact h
      | 5,h=>exact h
      | 6,h=>exact X2t h hp
      | 7,h=>exact X2t h hp
      | 8,h=>exact X5L h hp
      | 9,h=>exact X2b h hp
      | 10,h=>exact X2b h hp
      | 11,h=>exact h
      | 12,h=>exact h
      | 13,h=>exact h
      | 14,h=>exact h
      | _+15,h=>trivial
     case self=>
      intro k hk J J' v wz h
      simp only[List.mem_cons,List.not_mem_nil,or_false] at hk
      rcases hk with rfl | rfl | rfl <;> exact h
     case step=>
      simp only[List.cons_append,List.nil_append]
      refine RgA.Steps.cons (o:=⟨_,_,_,_,_,_⟩) rfl ?_ (RgA.Steps.cons (o:=⟨_,_,_,_,_,_⟩) rfl ?_ (RgA.Steps.cons (o:=⟨_,_,_,_,_,_⟩) rfl ?_ (RgA.Steps.cons (o:=⟨_,_,_,_,_,_⟩) rfl ?_ (RgA.Steps.cons (o:=⟨_,_,_,_,_,_⟩) rfl ?_ (RgA.Steps.cons (o:=⟨_,_,_,_,_,_⟩) rfl ?_ (RgA.Steps.cons (o:=⟨_,_,_,_,_,_⟩) rfl ?_ (RgA.Steps.cons (o:=⟨_,_,_,_,_,_⟩) rfl ?_ (RgA.Steps.cons (o:=⟨_,_,_,_,_,_⟩) rfl ?_ (RgA.Steps.cons (o:=⟨_,_,_,_,_,_⟩) rfl ?_ (RgA.Steps.cons (o:=⟨_,_,_,_,_,_⟩) rfl ?_ (RgA.Steps.cons (o:=⟨_,_,_,_,_,_⟩) rfl ?_ (RgA.Steps.cons (o:=⟨_,_,_,_,_,_⟩) rfl ?_ (RgA.Steps.cons (o:=⟨_,_,_,_,_,_⟩) rfl ?_ (RgA.Steps.cons (o:=⟨_,_,_,_,_,_⟩) rfl ?_ RgA.Steps.nil))))))))))))))
      ·intro y wz J hJ z n hd K' hK
       rw[RgA.X0q _ [(0,40),(1,41),(2,42),(3,43),(4,44),(5,45),(6,46),(7,39),(8,47),(12,8),(13,9),(14,10),(9,48),(10,49),(11,50)] (by kernel_rfl)] at hK ⊢
       simp only[RgA.mkL,List.foldl_cons,List.foldl_nil,List.setIfInBounds_toArray,List.set_cons_succ,List.set_cons_zero] at hK ⊢
       refine atL (XFa x0.out n) ?_
       have H:=hK.out (.agg X) wz (rfl) (Below.refl _ _) (fun h=>by simp at h)
       simp only[Act.put,List.setIfInBounds_toArray,List.set_cons_succ,List.set_cons_zero] at H
       exact H
      ·intro y wz J hJ z n hd K' hK
       have d0:(y 0)= .agg X:=hd 0 (by kernel_rfl)
       rw[RgA.X0q _ [(0,40),(1,41),(2,42),(3,43),(4,44),(5,45),(6,46),(7,39),(8,47),(12,8),(13,9),(14,10),(9,48),(10,49),(11,50)] (by kernel_rfl)] at hK ⊢
       simp only[RgA.mkL,List.foldl_cons,List.foldl_nil,List.setIfInBounds_toArray,List.set_cons_succ,List.set_cons_zero] at hK ⊢
       rw[d0] at hK ⊢
       go_simp
       refine(X4j (X08 rs.out n)).mono ?_
       rintro e w1 ⟨rfl,q0⟩
       go_wp2_with fail
       have H:=hK.out (.agg X) w1 (rfl) (q0) (fun h=>by simp at h)
       simp only[Act.put,List.setIfInBounds_toArray,List.set_cons_succ,List.set_cons_zero] at H
       exact H
      ·intro y wz J hJ z n hd K' hK
       rw[RgA.X0q _ [(0,40),(1,41),(2,42),(3,43),(4,44),(5,45),(6,46),(7,39),(8,47),(12,8),(13,9),(14,10),(9,48),(10,49),(11,50)] (by kernel_rfl)] at hK ⊢
       simp only[RgA.mkL,List.foldl_cons,List.foldl_nil,List.setIfInBounds_toArray,List.set_cons_succ,List.set_cons_zero] at hK ⊢
       refine atL (XFa x1.out n) ?_
       have H:=hK.out (.agg Y) wz (rfl) (Below.refl _ _) (fun h=>by simp at h)
       simp only[Act.put,List.setIfInBounds_toArray,List.set_cons_succ,List.set_cons_zero] at H
       exact H
      ·intro y wz J hJ z n hd K' hK
       have d2:(y 2)= .agg Y:=hd 2 (by kernel_rfl)
       rw[RgA.X0q _ [(0,40),(1,41),(2,42),(3,43),(4,44),(5,45),(6,46),(7,39),(8,47),(12,8),(13,9),(14,10),(9,48),(10,49),(11,50)] (by kernel_rfl)] at hK ⊢
       simp only[RgA.mkL,List.foldl_cons,List.foldl_nil,List.setIfInBounds_toArray,List.set_cons_succ,List.set_cons_zero] at hK ⊢
       rw[d2] at hK ⊢
       go_simp
       refine(X2r (X01 ri.out n)).mono ?_
       rintro e w1 ⟨rfl,q0⟩
       go_wp2_with fail
       have H:=hK.out (.agg Y) w1 (rfl) (q0) (fun h=>by simp at h)
       simp only[Act.put,List.setIfInBounds_toArray,List.set_cons_succ,List.set_cons_zero] at H
       exact H
      ·intro y wz J hJ z n hd K' hK
       rw[RgA.X0q _ [(0,40),(1,41),(2,42),(3,43),(4,44),(5,45),(6,46),(7,39),(8,47),(12,8),(13,9),(14,10),(9,48),(10,49),(11,50)] (by kernel_rfl)] at hK ⊢
       simp only[RgA.mkL,List.foldl_cons,List.foldl_nil,List.setIfInBounds_toArray,List.set_cons_succ,List.set_cons_zero] at hK ⊢
       refine atL (XFa x2.out n) ?_
       have H:=hK.out (.agg Z) wz (rfl) (Below.refl _ _) (fun h=>by simp at h)
       simp only[Act.put,List.setIfInBounds_toArray,List.set_cons_succ,List.set_cons_zero] at H
       exact H
      ·intro y wz J hJ z n hd K' hK
       have d4:(y 4)= .agg Z:=hd 4 (by kernel_rfl)
       rw[RgA.X0q _ [(0,40),(1,41),(2,42),(3,43),(4,44),(5,45),(6,46),(7,39),(8,47),(12,8),(13,9),(14,10),(9,48),(10,49),(11,50)] (by kernel_rfl)] at hK ⊢
       simp only[RgA.mkL,List.foldl_cons,List.foldl_nil,List.setIfInBounds_toArray,List.set_cons_succ,List.set_cons_zero] at hK ⊢
       rw[d4] at hK ⊢
       go_simp
       refine(X2r (X01 ro.out n)).mono ?_
       rintro e w1 ⟨rfl,q0⟩
       go_wp2_with fail
       have H:=hK.out (.agg Z) w1 (rfl) (q0) (fun h=>by simp at h)
       simp only[Act.put,List.setIfInBounds_toArray,List.set_cons_succ,List.set_cons_zero] at H
       exact H
      ·intro y wz J hJ z n hd K' hK
       have d1:(y 1)= .agg X:=hd 1 (by kernel_rfl)
       have d3:(y 3)= .agg Y:=hd 3 (by kernel_rfl)
       have d5:(y 5)= .agg Z:=hd 5 (by kernel_rfl)
       rw[RgA.X0q _ [(0,40),(1,41),(2,42),(3,43),(4,44),(5,45),(6,46),(7,39),(8,47),(12,8),(13,9),(14,10),(9,48),(10,49),(11,50)] (by kernel_rfl)] at hK ⊢
       simp only[RgA.mkL,List.foldl_cons,List.foldl_nil,List.setIfInBounds_toArray,List.set_cons_succ,List.set_cons_zero] at hK ⊢
       rw[d1,d3,d5] at hK ⊢
       go_simp
       refine(aa.out J _ _ _ wz (fun j h=>(hJ j h).1) (tabs_next hT.out n) (X08 (X3s rs.out (fun j hj h=>(hJ j h).2.elim (fun h=>h) (fun h=>absurd hj (Nat.not_lt.2 h)))) n) (X01 (X0Q ri.out (fun j hj h=>(hJ j h).2.elim (fun h=>h) (fun h=>absurd hj (Nat.not_lt.2 h)))) n) (X01 (X0Q ro.out (fun j hj h=>(hJ j h).2.elim (fun h=>h) (fun h=>absurd hj (Nat.not_lt.2 h)))) n)).mono ?_
       rintro e w1 ⟨vs,vi,vo,rfl,r1,r2,r3,q0⟩
       go_wp2_with fail
       have H:=hK.out (.tuple #[vs,vi,vo, .bool ok]) w1 (⟨vs,vi,vo,rfl,r1,r2,r3⟩) (q0) (fun h=>by simp at h)
       simp only[Act.put,List.setIfInBounds_toArray,List.set_cons_succ,List.set_cons_zero] at H
       exact H
      ·intro y wz J hJ z n hd K' hK
       have d6:FT (t,i2,o2,ok) J (y 6) wz:=hd 6 (by kernel_rfl)
       rw[RgA.X0q _ [(0,40),(1,41),(2,42),(3,43),(4,44),(5,45),(6,46),(7,39),(8,47),(12,8),(13,9),(14,10),(9,48),(10,49),(11,50)] (by kernel_rfl)] at hK ⊢
       simp only[RgA.mkL,List.foldl_cons,List.foldl_nil,List.setIfInBounds_toArray,List.set_cons_succ,List.set_cons_zero] at hK ⊢
       go_simp
       have H:=hK.out (y 6) wz (d6) (Below.refl _ _) (fun h=>by simp at h)
       simp only[Act.put,List.setIfInBounds_toArray,List.set_cons_succ,List.set_cons_zero] at H
       exact H
      ·intro y wz J hJ z n hd K' hK
       have d7:FT (t,i2,o2,ok) J (y 7) wz:=hd 7 (by kernel_rfl)
       rw[RgA.X0q _ [(0,40),(1,41),(2,42),(3,43),(4,44),(5,45),(6,46),(7,39),(8,47),(12,8),(13,9),(14,10),(9,48),(10,49),(11,50)] (by kernel_rfl)] at hK ⊢
       simp only[RgA.mkL,List.foldl_cons,List.foldl_nil,List.setIfInBounds_toArray,List.set_cons_succ,List.set_cons_zero] at hK ⊢
       obtain⟨vs,vi,vo,e7,r1,r2,r3⟩:=X18 d7
       try dsimp only at e7 r1 r2 r3
       rw[e7] at hK ⊢
       clear e7
       go_simp
       have H:=hK.out (vs) wz (r1) (Below.refl _ _) (fun h=>by simp at h)
       simp only[Act.put,List.setIfInBounds_toArray,List.set_cons_succ,List.set_cons_zero] at H
       exact H
      ·intro y wz J hJ z n hd K' hK
       rw[RgA.X0q _ [(0,40),(1,41),(2,42),(3,43),(4,44),(5,45),(6,46),(7,39),(8,47),(12,8),(13,9),(14,10),(9,48),(10,49),(11,50)] (by kernel_rfl)] at hK ⊢
       simp only[RgA.mkL,List.foldl_cons,List.foldl_nil,List.setIfInBounds_toArray,List.set_cons_succ,List.set_cons_zero] at hK ⊢
       go_simp
       have H:=hK.out (.pointer (some ⟨wz.heap.size,0,none⟩)) (wz.alloc (.cells zeroS 48)) (⟨_,rfl,n.size,XFb wz_S wz⟩) (X04 wz _) (fun _=>XFZ wz _)
       simp only[Act.put,List.setIfInBounds_toArray,List.set_cons_succ,List.set_cons_zero] at H
       exact H
      ·intro y wz J hJ z n hd K' hK
       rw[RgA.X0q _ [(0,40),(1,41),(2,42),(3,43),(4,44),(5,45),(6,46),(7,39),(8,47),(12,8),(13,9),(14,10),(9,48),(10,49),(11,50)] (by kernel_rfl)] at hK ⊢
       simp only[RgA.mkL,List.foldl_cons,List.foldl_nil,List.setIfInBounds_toArray,List.set_cons_succ,List.set_cons_zero] at hK ⊢
       go_simp
       have H:=hK.out (.pointer (some ⟨wz.heap.size,0,none⟩)) (wz.alloc (.cells zeroC 49)) (⟨_,rfl,n.size,XFb wz_C wz⟩) (X04 wz _) (fun _=>XFZ wz _)
       simp only[Act.put,List.setIfInBounds_toArray,List.set_cons_succ,List.set_cons_zero] at H
       exact H
      ·intro y wz J hJ z n hd K' hK
       rw[RgA.X0q _ [(0,40),(1,41),(2,42),(3,43),(4,44),(5,45),(6,46),(7,39),(8,47),(12,8),(13,9),(14,10),(9,48),(10,49),(11,50)] (by kernel_rfl)] at hK ⊢
       simp only[RgA.mkL,List.foldl_cons,List.foldl_nil,List.setIfInBounds_toArray,List.set_cons_succ,List.set_cons_zero] at hK ⊢
       go_simp
       have H:=hK.out (.pointer (some ⟨wz.heap.size,0,none⟩)) (wz.alloc (.cells zeroC 49)) (⟨_,rfl,n.size,XFb wz_C wz⟩) (X04 wz _) (fun _=>XFZ wz _)
       simp only[Act.put,List.setIfInBounds_toArray,List.set_cons_succ,List.set_cons_zero] at H
       exact H
      ·intro y wz J hJ z n hd K' hK
       have d7:FT (t,i2,o2,ok) J (y 7) wz:=hd 7 (by kernel_rfl)
       rw[RgA.X0q _ [(0,40),(1,41),(2,42),(3,43),(4,44),(5,45),(6,46),(7,39),(8,47),(12,8),(13,9),(14,10),(9,48),(10,49),(11,50)] (by kernel_rfl)] at hK ⊢
       simp only[RgA.mkL,List.foldl_cons,List.foldl_nil,List.setIfInBounds_toArray,List.set_cons_succ,List.set_cons_zero] at hK ⊢
       obtain⟨vs,vi,vo,e7,r1,r2,r3⟩:=X18 d7
       try dsimp only at e7 r1 r2 r3
       rw[e7] at hK ⊢
       clear e7
       go_simp
       have H:=hK.out (vi) wz (r2) (Below.refl _ _) (fun h=>by simp at h)
       simp only[Act.put,List.setIfInBounds_toArray,List.set_cons_succ,List.set_cons_zero] at H
       exact H
      ·intro y wz J hJ z n hd K' hK
       have d7:FT (t,i2,o2,ok) J (y 7) wz:=hd 7 (by kernel_rfl)
       rw[RgA.X0q _ [(0,40),(1,41),(2,42),(3,43),(4,44),(5,45),(6,46),(7,39),(8,47),(12,8),(13,9),(14,10),(9,48),(10,49),(11,50)] (by kernel_rfl)] at hK ⊢
       simp only[RgA.mkL,List.foldl_cons,List.foldl_nil,List.setIfInBounds_toArray,List.set_cons_succ,List.set_cons_zero] at hK ⊢
       obtain⟨vs,vi,vo,e7,r1,r2,r3⟩:=X18 d7
       try dsimp only at e7 r1 r2 r3
       rw[e7] at hK ⊢
       clear e7
       go_simp
       have H:=hK.out (vo) wz (r3) (Below.refl _ _) (fun h=>by simp at h)
       simp only[Act.put,List.setIfInBounds_toArray,List.set_cons_succ,List.set_cons_zero] at H
       exact H
      ·intro y wz J hJ z n hd K' hK
       have d7:FT (t,i2,o2,ok) J (y 7) wz:=hd 7 (by kernel_rfl)
       rw[RgA.X0q _ [(0,40),(1,41),(2,42),(3,43),(4,44),(5,45),(6,46),(7,39),(8,47),(12,8),(13,9),(14,10),(9,48),(10,49),(11,50)] (by kernel_rfl)] at hK ⊢
       simp only[RgA.mkL,List.foldl_cons,List.foldl_nil,List.setIfInBounds_toArray,List.set_cons_succ,List.set_cons_zero] at hK ⊢
       obtain⟨vs,vi,vo,e7,r1,r2,r3⟩:=X18 d7
       try dsimp only at e7 r1 r2 r3
       rw[e7] at hK ⊢
       clear e7
       go_simp
       have H:=hK.out (.bool ok) wz (rfl) (Below.refl _ _) (fun h=>by simp at h)
       simp only[Act.put,List.setIfInBounds_toArray,List.set_cons_succ,List.set_cons_zero] at H
       exact H
     case pure=>
      refine RgA.Pures.cons rfl ?_ (RgA.Pures.cons rfl ?_ (RgA.Pures.cons rfl ?_ RgA.Pures.nil))
      ·intro y wz J hd
       have d7:FT (t,i2,o2,ok) J (y 7) wz:=hd 7 (by kernel_rfl)
       obtain⟨vs,vi,vo,e7,r1,r2,r3⟩:=X18 d7
       refine⟨vi,r2,?_⟩
       rw[RgA.X0q _ [(0,40),(1,41),(2,42),(3,43),(4,44),(5,45),(6,46),(7,39),(8,47),(12,8),(13,9),(14,10),(9,48),(10,49),(11,50)] (by kernel_rfl)]
       simp only[RgA.mkL,List.foldl_cons,List.foldl_nil,List.setIfInBounds_toArray,List.set_cons_succ,List.set_cons_zero]
       rw[e7]
       refine⟨by kernel_rfl,fun w'=>?_⟩
       go_simp
      ·intro y wz J hd
       have d7:FT (t,i2,o2,ok) J (y 7) wz:=hd 7 (by kernel_rfl)
       obtain⟨vs,vi,vo,e7,r1,r2,r3⟩:=X18 d7
       refine⟨vo,r3,?_⟩
       rw[RgA.X0q _ [(0,40),(1,41),(2,42),(3,43),(4,44),(5,45),(6,46),(7,39),(8,47),(12,8),(13,9),(14,10),(9,48),(10,49),(11,50)] (by kernel_rfl)]
       simp only[RgA.mkL,List.foldl_cons,List.foldl_nil,List.setIfInBounds_toArray,List.set_cons_succ,List.set_cons_zero]
       rw[e7]
       refine⟨by kernel_rfl,fun w'=>?_⟩
       go_simp
      ·intro y wz J hd
       have d7:FT (t,i2,o2,ok) J (y 7) wz:=hd 7 (by kernel_rfl)
       obtain⟨vs,vi,vo,e7,r1,r2,r3⟩:=X18 d7
       refine⟨.bool ok,rfl,?_⟩
       rw[RgA.X0q _ [(0,40),(1,41),(2,42),(3,43),(4,44),(5,45),(6,46),(7,39),(8,47),(12,8),(13,9),(14,10),(9,48),(10,49),(11,50)] (by kernel_rfl)]
       simp only[RgA.mkL,List.foldl_cons,List.foldl_nil,List.setIfInBounds_toArray,List.set_cons_succ,List.set_cons_zero]
       rw[e7]
       refine⟨by kernel_rfl,fun w'=>?_⟩
       go_simp
     intro y ab b3 J b9 ap ba hF au
     have f8:RS J ab (y 8) t:=hF 8 (by decide)
     have f9:RCh J ab (y 9) i2:=hF 9 (by decide)
     have E:RCh J ab (y 10) o2:=hF 10 (by decide)
     have aF:y 11= .bool ok:=hF 11 (by decide)
     obtain⟨p9,ac,b6,x9⟩:FPx Tryz.prog (w9).drew.heap.size zeroS 48 (y 12) ab:=hF 12 (by decide)
     obtain⟨aU,ad,ay,R⟩:FPx Tryz.prog (w9).drew.heap.size zeroC 49 (y 13) ab:=hF 13 (by decide)
     obtain⟨aV,ae,az,S⟩:FPx Tryz.prog (w9).drew.heap.size zeroC 49 (y 14) ab:=hF 14 (by decide)
     have n1:p9≠aU:=fun h=>au 12 (by decide) 13 (by decide) (by decide) (by rw[ac,ad,h])
     have n2:p9≠aV:=fun h=>au 12 (by decide) 14 (by decide) (by decide) (by rw[ac,ae,h])
     have n3:aU≠aV:=fun h=>au 13 (by decide) 14 (by decide) (by decide) (by rw[ad,ae,h])
     have j9:=ap 12 (by decide) p9 ac
     have b7:=ap 13 (by decide) aU ad
     have b8:=ap 14 (by decide) aV ae
     try dsimp only at f8 f9 E aF
     obtain⟨XT,e8,a1,a2⟩:=rs_x f8
     obtain⟨YT,e9,b1,b2,_⟩:=rch_x f9
     obtain⟨ZT,aE,g1,g2,_⟩:=rch_x E
     have v9:=wx_S a1 a2
     have aw:=wx_C b1 b2
     have ax:=wx_C g1 g2
     unfold TO17 at v9
     unfold TO16 at aw ax
     rw[e8] at f8
     rw[e9] at f9
     rw[aE] at E
     rw[RgA.X0q _ [(0,40),(1,41),(2,42),(3,43),(4,44),(5,45),(6,46),(7,39),(8,47),(12,8),(13,9),(14,10),(9,48),(10,49),(11,50)] (by kernel_rfl)]
     simp only[RgA.mkL,List.foldl_cons,List.foldl_nil,List.setIfInBounds_toArray,List.set_cons_succ,List.set_cons_zero]
     rw[ac,ad,ae,e8,e9,aE,aF]
     clear e8 e9 aE aF ac ad ae au b9 ap hF a1 a2 b1 b2 g1 g2
     refine' tkS 15 rfl x9 v9 (fun bl p=>?_)
     have aJ:=p.below _ _ b6 b3
     have u:=XFf (J:=J) p j9
     refine⟨aJ,?_⟩
     try simp only[putA]
     replace f8:=X3f f8 u
     replace f9:=X0L f9 u
     replace E:=X0L E u
     replace x9:=XFg p v9
     replace R:=XFh R p n1.symm
     replace S:=XFh S p n2.symm
     clear u p
     refine' tkS 16 rfl R aw (fun bm p=>?_)
     have aK:=p.below _ _ ay aJ
     have u:=XFf (J:=J) p b7
     refine⟨aK,?_⟩
     try simp only[putA]
     replace f8:=X3f f8 u
     replace f9:=X0L f9 u
     replace E:=X0L E u
     replace R:=XFg p aw
     replace x9:=XFh x9 p n1
     replace S:=XFh S p n3.symm
     clear u p
     refine' tkS 17 rfl S ax (fun wd p=>?_)
     have ar:=p.below _ _ az aK
     have u:=XFf (J:=J) p b8
     refine⟨ar,?_⟩
     try simp only[putA]
     replace f8:=X3f f8 u
     replace f9:=X0L f9 u
     replace E:=X0L E u
     replace S:=XFg p ax
     replace x9:=XFh x9 p n2
     replace R:=XFh R p n3
     clear u p
     refine' tk 18 rfl ar ?_
     try simp only[putA]
     refine wpAnyH_done (by kernel_rfl) ?_ _
     have rt:=hid (X3s (K:=N0) f8 (fun _ _ h=>h.elim))
     have rj:=hid (X0Q (K:=N0) f9 (fun _ _ h=>h.elim))
     have rp:=hid (X0Q (K:=N0) E (fun _ _ h=>h.elim))
     have xt:=hid x9
     have xj:=hid R
     have xp:=hid S
     have qz:=ar
     clear f8 f9 E x9 R S b3 aJ aK ar ba n1 n2 n3 j9 b7 b8 b6 ay az bb v9 aw ax
     replace hT:=hid (tabs_next hT.out qz)
     replace rs:=hid (X08 rs.out qz)
     replace ri:=hid (X01 ri.out qz)
     replace ro:=hid (X01 ro.out qz)
     replace x0:=hid (XFa x0.out qz)
     replace x1:=hid (XFa x1.out qz)
     replace x2:=hid (XFa x2.out qz)
     replace bq:=hid (X05 bq.out qz)
     clear qz
     obtain⟨FU,ai⟩: ∃FU,(decide (o.L.length=2) || o.closed)=FU:=⟨_,rfl⟩
     obtain⟨WT,x⟩: ∃WT,(s.shut || (decide (s.pend≠ []) && FU) || (decide (s.pend= []) && !s.ended && decide (i.L= []) && !i.closed))=WT:=⟨_,rfl⟩
     have O:ok= !WT:=by
      have h:=an.out
      rw[←x,←ai,Bool.eq_iff_iff]
      cases ok with
      |
       true=>
       have h2:=mt h.2 (by simp)
       simp only[not_or,not_and] at h2
       obtain⟨a1,a2,a3⟩:=h2
       replace a1:s.shut=false:=by simpa using a1
       by_cases h3:s.pend= []
       ·have a4:=a3 h3
        rw[a1]
        cases he:s.ended <;> by_cases hi':i.L= [] <;> cases hc:i.closed <;> simp [h3,hi']
        exact a4 he hi' hc
       ·have a4: ¬o.L.length=2∧o.closed=false:=by simpa [not_or] using a2 h3
        simp [a1,h3,a4.1,a4.2]
      |
       false=>
       have h2:=h.1 rfl
       rcases h2 with h2 | ⟨h2,h3⟩ | ⟨h2,h3,h4,h5⟩
       ·simp [h2]
       ·rcases h3 with h3 | h3 <;> simp [h2,h3]
       ·simp [h2,h3,h4,h5]
     replace O:=hid O
     replace ai:=hid ai
     replace x:=hid x
     have bk:=a0.out.p
     have bi:=T.out.1
     have bj:=U.out.1
     have aA:=XFe x0.out 9 _ aG.out
     have C:=XFe x0.out 10 _ aj.out
     have D:=XFe x0.out 11 _ ak.out
     have aB:=XFe x1.out 0 _ aH.out
     have N:=XFe x1.out 1 _ a6.out
     have aC:=XFe x2.out 0 _ aI.out
     have aD:=XFe x2.out 1 _ a7.out
     go_upto_region 5 with(fail)
     go_cut [12] from 51 to 59 (fun bf wx=>bf= .bool FU∧wx=wd)
     case first=>
      by_cases hl:o.L.length=2
      ·have bd:((o.L.length:Int) == 2)=true:=by rw[hl];rfl
       have b4:(o.L.length:Int)=2:=by omega
       go_wp2_with fail
       go_meet
       exact⟨by rw[←ai.out];simp [hl],rfl⟩
      ·have b4: ¬(o.L.length:Int)=2:=by omega
       have bd:((o.L.length:Int) == 2)=false:=beq_eq_false_iff_ne.2 b4
       go_wp2_with fail
       go_meet
       exact⟨by rw[←ai.out];simp [hl],rfl⟩
     case rest=>
      obtain⟨rfl,P⟩:=hcut
      obtain rfl:wd=wc:=P.symm
      clear P
      rcases FU with _ | _
      ·skip
       go_upto_region 6 with(fail)
       go_cut [13] from 59 to 92 (fun aW wx=>aW= .bool WT∧wx=wd)
       case first=>
        cases b:s.shut with
        |
         true=>
         rw[b] at D
         have be:=(a8.out b).2
         have bc:=(a8.out b).1
         go_wp2_with fail
         go_meet
         exact⟨by rw[←x.out];simp [b],rfl⟩
        |
         false=>
         rw[b] at D
         by_cases hp:s.pend= []
         ·have aR:s.pend.length=0:=by rw[hp];rfl
          have aS: ¬(0:Int)<(s.pend.length:Int):=by omega
          have aT:((s.pend.length:Int) == 0)=true:=by rw[aR];rfl
          have am:(s.pend.length:Int)=0:=by omega
          cases he:s.ended with
          |
           true=>
           rw[he] at C
           go_wp2_with fail
           go_meet
           exact⟨by rw[←x.out];simp [b,hp,he],rfl⟩
          |
           false=>
           rw[he] at C
           by_cases hi':i.L= []
           ·have aL:i.L.length=0:=by rw[hi'];rfl
            have aM:((i.L.length:Int) == 0)=true:=by rw[aL];rfl
            have al:(i.L.length:Int)=0:=by omega
            cases hc:i.closed with
            |
             true=>
             rw[hc] at N
             go_wp2_with fail
             go_meet
             exact⟨by rw[←x.out];simp [b,hp,he,hi',hc],rfl⟩
            |
             false=>
             rw[hc] at N
             go_wp2_with fail
             go_meet
             exact⟨by rw[←x.out];simp [b,hp,he,hi',hc],rfl⟩
           ·have al: ¬(i.L.length:Int)=0:=by have:=List.length_pos_iff.2 hi';omega
            have aM:((i.L.length:Int) == 0)=false:=beq_eq_false_iff_ne.2 al
            go_wp2_with fail
            go_meet
            exact⟨by rw[←x.out];simp [b,hp,he,hi'],rfl⟩
         ·have aS:(0:Int)<(s.pend.length:Int):=by have:=List.length_pos_iff.2 hp;omega
          have am: ¬(s.pend.length:Int)=0:=by omega
          have aT:((s.pend.length:Int) == 0)=false:=beq_eq_false_iff_ne.2 am
          go_wp2_with fail
          go_meet
          exact⟨by rw[←x.out];simp [b,hp],rfl⟩
       case rest=>
        obtain⟨rfl,P⟩:=hcut
        obtain rfl:wd=wc:=P.symm
        clear P aA C D aB N aC aD
        rcases WT with _ | _
        ·obtain rfl:ok=true:=O.out
         go_wp2_with fail
         go_ret
         exact⟨rfl,bq.out⟩
        ·obtain rfl:ok=false:=O.out
         have he:=a9.out rfl
         simp only[Prod.mk.injEq] at he
         obtain⟨rfl,rfl,rfl,_⟩:=he
         clear O
         go_wp2_with (first | refine ldX x0.out ?_ | refine ldX x1.out ?_ | refine ldX x2.out ?_ | refine ldX xt.out ?_ | refine ldX xj.out ?_ | refine ldX xp.out ?_)
         refine(Xz0 a0.out rt.out rs.out).mono ?_
         rintro e bg ⟨rfl,f⟩
         replace hT:=hid (tabs_next hT.out f)
         replace rs:=hid (X08 rs.out f)
         replace ri:=hid (X01 ri.out f)
         replace ro:=hid (X01 ro.out f)
         replace x0:=hid (XFa x0.out f)
         replace x1:=hid (XFa x1.out f)
         replace x2:=hid (XFa x2.out f)
         replace rt:=hid (X08 rt.out f)
         replace rj:=hid (X01 rj.out f)
         replace rp:=hid (X01 rp.out f)
         replace xt:=hid (XFa xt.out f)
         replace xj:=hid (XFa xj.out f)
         replace xp:=hid (XFa xp.out f)
         replace bq:=hid (X05 bq.out f)
         clear f
         go_wp2_with (first | refine ldX x0.out ?_ | refine ldX x1.out ?_ | refine ldX x2.out ?_ | refine ldX xt.out ?_ | refine ldX xj.out ?_ | refine ldX xp.out ?_)
         refine(X8h T.out rj.out ri.out).mono ?_
         rintro e bh ⟨rfl,g⟩
         replace hT:=hid (tabs_next hT.out g)
         replace rs:=hid (X08 rs.out g)
         replace ri:=hid (X01 ri.out g)
         replace ro:=hid (X01 ro.out g)
         replace x0:=hid (XFa x0.out g)
         replace x1:=hid (XFa x1.out g)
         replace x2:=hid (XFa x2.out g)
         replace rt:=hid (X08 rt.out g)
         replace rj:=hid (X01 rj.out g)
         replace rp:=hid (X01 rp.out g)
         replace xt:=hid (XFa xt.out g)
         replace xj:=hid (XFa xj.out g)
         replace xp:=hid (XFa xp.out g)
         replace bq:=hid (X05 bq.out g)
         clear g
         go_wp2_with (first | refine ldX x0.out ?_ | refine ldX x1.out ?_ | refine ldX x2.out ?_ | refine ldX xt.out ?_ | refine ldX xj.out ?_ | refine ldX xp.out ?_)
         refine(X8h U.out rp.out ro.out).mono ?_
         rintro e w12 ⟨rfl,l⟩
         replace hT:=hid (tabs_next hT.out l)
         replace rs:=hid (X08 rs.out l)
         replace ri:=hid (X01 ri.out l)
         replace ro:=hid (X01 ro.out l)
         replace x0:=hid (XFa x0.out l)
         replace x1:=hid (XFa x1.out l)
         replace x2:=hid (XFa x2.out l)
         replace rt:=hid (X08 rt.out l)
         replace rj:=hid (X01 rj.out l)
         replace rp:=hid (X01 rp.out l)
         replace xt:=hid (XFa xt.out l)
         replace xj:=hid (XFa xj.out l)
         replace xp:=hid (XFa xp.out l)
         replace bq:=hid (X05 bq.out l)
         clear l
         go_wp2_with fail
         go_ret
         exact⟨rfl,bq.out⟩
      ·skip
       go_upto_region 6 with(fail)
       go_cut [13] from 59 to 92 (fun aW wx=>aW= .bool WT∧wx=wd)
       case first=>
        cases b:s.shut with
        |
         true=>
         rw[b] at D
         have be:=(a8.out b).2
         have bc:=(a8.out b).1
         go_wp2_with fail
         go_meet
         exact⟨by rw[←x.out];simp [b],rfl⟩
        |
         false=>
         rw[b] at D
         by_cases hp:s.pend= []
         ·have aR:s.pend.length=0:=by rw[hp];rfl
          have aS: ¬(0:Int)<(s.pend.length:Int):=by omega
          have aT:((s.pend.length:Int) == 0)=true:=by rw[aR];rfl
          have am:(s.pend.length:Int)=0:=by omega
          cases he:s.ended with
          |
           true=>
           rw[he] at C
           go_wp2_with fail
           go_meet
           exact⟨by rw[←x.out];simp [b,hp,he],rfl⟩
          |
           false=>
           rw[he] at C
           by_cases hi':i.L= []
           ·have aL:i.L.length=0:=by rw[hi'];rfl
            have aM:((i.L.length:Int) == 0)=true:=by rw[aL];rfl
            have al:(i.L.length:Int)=0:=by omega
            cases hc:i.closed with
            |
             true=>
             rw[hc] at N
             go_wp2_with fail
             go_meet
             exact⟨by rw[←x.out];simp [b,hp,he,hi',hc],rfl⟩
            |
             false=>
             rw[hc] at N
             go_wp2_with fail
             go_meet
             exact⟨by rw[←x.out];simp [b,hp,he,hi',hc],rfl⟩
           ·have al: ¬(i.L.length:Int)=0:=by have:=List.length_pos_iff.2 hi';omega
            have aM:((i.L.length:Int) == 0)=false:=beq_eq_false_iff_ne.2 al
            go_wp2_with fail
            go_meet
            exact⟨by rw[←x.out];simp [b,hp,he,hi'],rfl⟩
         ·have aS:(0:Int)<(s.pend.length:Int):=by have:=List.length_pos_iff.2 hp;omega
          have am: ¬(s.pend.length:Int)=0:=by omega
          have aT:((s.pend.length:Int) == 0)=false:=beq_eq_false_iff_ne.2 am
          go_wp2_with fail
          go_meet
          exact⟨by rw[←x.out];simp [b,hp],rfl⟩
       case rest=>
        obtain⟨rfl,P⟩:=hcut
        obtain rfl:wd=wc:=P.symm
        clear P aA C D aB N aC aD
        rcases WT with _ | _
        ·obtain rfl:ok=true:=O.out
         go_wp2_with fail
         go_ret
         exact⟨rfl,bq.out⟩
        ·obtain rfl:ok=false:=O.out
         have he:=a9.out rfl
         simp only[Prod.mk.injEq] at he
         obtain⟨rfl,rfl,rfl,_⟩:=he
         clear O
         go_wp2_with (first | refine ldX x0.out ?_ | refine ldX x1.out ?_ | refine ldX x2.out ?_ | refine ldX xt.out ?_ | refine ldX xj.out ?_ | refine ldX xp.out ?_)
         refine(Xz0 a0.out rt.out rs.out).mono ?_
         rintro e bg ⟨rfl,f⟩
         replace hT:=hid (tabs_next hT.out f)
         replace rs:=hid (X08 rs.out f)
         replace ri:=hid (X01 ri.out f)
         replace ro:=hid (X01 ro.out f)
         replace x0:=hid (XFa x0.out f)
         replace x1:=hid (XFa x1.out f)
         replace x2:=hid (XFa x2.out f)
         replace rt:=hid (X08 rt.out f)
         replace rj:=hid (X01 rj.out f)
         replace rp:=hid (X01 rp.out f)
         replace xt:=hid (XFa xt.out f)
         replace xj:=hid (XFa xj.out f)
         replace xp:=hid (XFa xp.out f)
         replace bq:=hid (X05 bq.out f)
         clear f
         go_wp2_with (first | refine ldX x0.out ?_ | refine ldX x1.out ?_ | refine ldX x2.out ?_ | refine ldX xt.out ?_ | refine ldX xj.out ?_ | refine ldX xp.out ?_)
         refine(X8h T.out rj.out ri.out).mono ?_
         rintro e bh ⟨rfl,g⟩
         replace hT:=hid (tabs_next hT.out g)
         replace rs:=hid (X08 rs.out g)
         replace ri:=hid (X01 ri.out g)
         replace ro:=hid (X01 ro.out g)
         replace x0:=hid (XFa x0.out g)
         replace x1:=hid (XFa x1.out g)
         replace x2:=hid (XFa x2.out g)
         replace rt:=hid (X08 rt.out g)
         replace rj:=hid (X01 rj.out g)
         replace rp:=hid (X01 rp.out g)
         replace xt:=hid (XFa xt.out g)
         replace xj:=hid (XFa xj.out g)
         replace xp:=hid (XFa xp.out g)
         replace bq:=hid (X05 bq.out g)
         clear g
         go_wp2_with (first | refine ldX x0.out ?_ | refine ldX x1.out ?_ | refine ldX x2.out ?_ | refine ldX xt.out ?_ | refine ldX xj.out ?_ | refine ldX xp.out ?_)
         refine(X8h U.out rp.out ro.out).mono ?_
         rintro e w12 ⟨rfl,l⟩
         replace hT:=hid (tabs_next hT.out l)
         replace rs:=hid (X08 rs.out l)
         replace ri:=hid (X01 ri.out l)
         replace ro:=hid (X01 ro.out l)
         replace x0:=hid (XFa x0.out l)
         replace x1:=hid (XFa x1.out l)
         replace x2:=hid (XFa x2.out l)
         replace rt:=hid (X08 rt.out l)
         replace rj:=hid (X01 rj.out l)
         replace rp:=hid (X01 rp.out l)
         replace xt:=hid (XFa xt.out l)
         replace xj:=hid (XFa xj.out l)
         replace xp:=hid (XFa xp.out l)
         replace bq:=hid (X05 bq.out l)
         clear l
         go_wp2_with fail
         go_ret
         exact⟨rfl,bq.out⟩
end Go.Proofs.YtkofnpkopbnocaaGreatDoor
