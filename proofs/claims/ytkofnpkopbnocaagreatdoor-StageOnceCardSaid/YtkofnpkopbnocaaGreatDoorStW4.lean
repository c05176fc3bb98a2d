import Derived.Test.YtkofnpkopbnocaaGreatDoorStVk
import Derived.Test.YtkofnpkopbnocaaGreatDoorStBk
import Derived.Test.YtkofnpkopbnocaaGreatDoorStMk
import Derived.Test.YtkofnpkopbnocaaGreatDoorChPk
set_option maxRecDepth 100000
set_option maxHeartbeats 25600000
namespace Go.Proofs.YtkofnpkopbnocaaGreatDoor
set_option linter.unusedSimpArgs false
set_option linter.unusedVariables false
open Go Go.RowKit Go.Lib
open Mch (MS)
open Stg (Ch St)
theorem stageOnce_walk(hN:NewC17)(hS:SaneC17)(hP:StepC17)(hK:CostC17)(hD:SaneC16)(v:Value)(s:St)(vi:Value)(i:Ch)(vo:Value)(o:Ch)(w:World)(hT:Tabs w)(hv:RS N0 w v s∧I64 s.m.kind)(hi:RCh N0 w vi i∧i.Wf∧i.L.length≤maxLen)(ho:RCh N0 w vo o∧o.Wf∧o.L.length≤maxLen):
 Calls Tryz.prog 7 #[v,vi,vo] w fun e w'=>e= .returned (.bool true)∧Below w.heap.size w w':=by
 obtain⟨rs,b5⟩:=hv
 obtain⟨ri,b4,b6⟩:=hi
 obtain⟨ro,bp,b7⟩:=ho
 have aJ:=hid (fun W h=>X5R hN hP hK W h)
 have aq:=fun W h1 h2 h3=>X8w N0 N0 N0 v s vi i vo o W b6 b7 h1 h2 h3
 obtain⟨F,hF⟩: ∃F,(fewS s && fewC i && fewC o)=F:=⟨_,rfl⟩
 rw[hF] at aq
 replace aq:=hid aq
 replace hF:=hid hF
 obtain⟨X,rfl,bd,be⟩:=rs_x rs
 obtain⟨Y,rfl,bf,bg,_⟩:=rch_x ri
 obtain⟨Z,rfl,bh,bi,_⟩:=rch_x ro
 obtain⟨W,hW,x0,x1,x2,bq⟩:=three (w:=w) (vx_S bd be) (vx_C bf bg) (vx_C bh bi)
 unfold TR17 TR16 at *
 replace rs:=X08 rs bq
 replace ri:=X01 ri bq
 replace ro:=X01 ro bq
 replace hT:=tabs_next hT bq
 clear bd be bf bg bh bi
 replace hW:=hid hW
 replace x0:=hid x0
 replace x1:=hid x1
 replace x2:=hid x2
 replace bq:=hid bq
 replace rs:=hid rs
 replace ri:=hid ri
 replace ro:=hid ro
 replace hT:=hid hT
 replace b5:=hid b5
 replace b4:=hid b4
 replace bp:=hid bp
 replace b6:=hid b6
 replace b7:=hid b7
 go_enter Tryz.func7,Tryz.ntmps7
 go_upto_region 1 with(fail)
 rw[hW.out]
 go_wp2_with fail
 refine(aJ.out W hT.out).mono ?_
 rintro e w2 ⟨rfl,q2⟩
 replace hT:=hid (tabs_next hT.out q2)
 replace rs:=hid (X08 rs.out q2)
 replace ri:=hid (X01 ri.out q2)
 replace ro:=hid (X01 ro.out q2)
 replace x0:=hid (XFa x0.out q2)
 replace x1:=hid (XFa x1.out q2)
 replace x2:=hid (XFa x2.out q2)
 replace bq:=hid (X05 bq.out q2)
 clear q2
 go_wp2_with (first | refine ldX x0.out ?_ | refine ldX x1.out ?_ | refine ldX x2.out ?_)
 refine(aq.out w2 rs.out ri.out ro.out).mono ?_
 rintro e w3 ⟨rfl,q3⟩
 replace hT:=hid (tabs_next hT.out q3)
 replace rs:=hid (X08 rs.out q3)
 replace ri:=hid (X01 ri.out q3)
 replace ro:=hid (X01 ro.out q3)
 replace x0:=hid (XFa x0.out q3)
 replace x1:=hid (XFa x1.out q3)
 replace x2:=hid (XFa x2.out q3)
 replace bq:=hid (X05 bq.out q3)
 clear q3
 rcases F with _ | _
 ·skip
  go_wp2_with fail
  go_ret
  exact⟨rfl,bq.out⟩
 ·skip
  have aD:=hF.out
  simp only[Bool.and_eq_true] at aD
  have aM:=X3x aD.1.1 b5.out
  have ao:=(X1S aD.1.2).1
  have av:=(X1S aD.2).1
  clear hF aD
  replace aM:=hid aM
  replace ao:=hid ao
  replace av:=hid av
  have ac:=fun V Wz t r=>hS N0 V s Wz t aM.out r
  obtain⟨B1,aH⟩: ∃B,Stg.saneS s=B:=⟨_,rfl⟩
  rw[aH] at ac
  have ad:=fun V Wz r=>hD N0 V i Wz ao.out r
  obtain⟨B2,aj⟩: ∃B,Stg.saneC i=B:=⟨_,rfl⟩
  rw[aj] at ad
  have ae:=fun V Wz r=>hD N0 V o Wz av.out r
  obtain⟨B3,ak⟩: ∃B,Stg.saneC o=B:=⟨_,rfl⟩
  rw[ak] at ae
  replace ac:=hid ac
  replace aH:=hid aH
  replace ad:=hid ad
  replace aj:=hid aj
  replace ae:=hid ae
  replace ak:=hid ak
  go_wp2_with (first | refine ldX x0.out ?_ | refine ldX x1.out ?_ | refine ldX x2.out ?_)
  refine(X4j rs.out).mono ?_
  rintro e w4 ⟨rfl,q4⟩
  replace hT:=hid (tabs_next hT.out q4)
  replace rs:=hid (X08 rs.out q4)
  replace ri:=hid (X01 ri.out q4)
  replace ro:=hid (X01 ro.out q4)
  replace x0:=hid (XFa x0.out q4)
  replace x1:=hid (XFa x1.out q4)
  replace x2:=hid (XFa x2.out q4)
  replace bq:=hid (X05 bq.out q4)
  clear q4
  go_wp2_with fail
  refine(ac.out _ w4 hT.out rs.out).mono ?_
  rintro e w5 ⟨rfl,q5⟩
  replace hT:=hid (tabs_next hT.out q5)
  replace rs:=hid (X08 rs.out q5)
  replace ri:=hid (X01 ri.out q5)
  replace ro:=hid (X01 ro.out q5)
  replace x0:=hid (XFa x0.out q5)
  replace x1:=hid (XFa x1.out q5)
  replace x2:=hid (XFa x2.out q5)
  replace bq:=hid (X05 bq.out q5)
  clear q5
  rcases B1 with _ | _
  ·skip
   go_wp2_with fail
   go_ret
   exact⟨rfl,bq.out⟩
  ·skip
   go_wp2_with (first | refine ldX x0.out ?_ | refine ldX x1.out ?_ | refine ldX x2.out ?_)
   refine(X2r ri.out).mono ?_
   rintro e w6 ⟨rfl,q6⟩
   replace hT:=hid (tabs_next hT.out q6)
   replace rs:=hid (X08 rs.out q6)
   replace ri:=hid (X01 ri.out q6)
   replace ro:=hid (X01 ro.out q6)
   replace x0:=hid (XFa x0.out q6)
   replace x1:=hid (XFa x1.out q6)
   replace x2:=hid (XFa x2.out q6)
   replace bq:=hid (X05 bq.out q6)
   clear q6
   go_wp2_with fail
   refine(ad.out _ w6 ri.out).mono ?_
   rintro e w7 ⟨rfl,q7⟩
   replace hT:=hid (tabs_next hT.out q7)
   replace rs:=hid (X08 rs.out q7)
   replace ri:=hid (X01 ri.out q7)
   replace ro:=hid (X01 ro.out q7)
   replace x0:=hid (XFa x0.out q7)
   replace x1:=hid (XFa x1.out q7)
   replace x2:=hid (XFa x2.out q7)
   replace bq:=hid (X05 bq.out q7)
   clear q7
   rcases B2 with _ | _
   ·skip
    go_wp2_with fail
    go_ret
    exact⟨rfl,bq.out⟩
   ·skip
    go_wp2_with (first | refine ldX x0.out ?_ | refine ldX x1.out ?_ | refine ldX x2.out ?_)
    refine(X2r ro.out).mono ?_
    rintro e w8 ⟨rfl,q8⟩
    replace hT:=hid (tabs_next hT.out q8)
    replace rs:=hid (X08 rs.out q8)
    replace ri:=hid (X01 ri.out q8)
    replace ro:=hid (X01 ro.out q8)
    replace x0:=hid (XFa x0.out q8)
    replace x1:=hid (XFa x1.out q8)
    replace x2:=hid (XFa x2.out q8)
    replace bq:=hid (X05 bq.out q8)
    clear q8
    go_wp2_with fail
    refine(ae.out _ w8 ro.out).mono ?_
    rintro e w9 ⟨rfl,q9⟩
    replace hT:=hid (tabs_next hT.out q9)
    replace rs:=hid (X08 rs.out q9)
    replace ri:=hid (X01 ri.out q9)
    replace ro:=hid (X01 ro.out q9)
    replace x0:=hid (XFa x0.out q9)
    replace x1:=hid (XFa x1.out q9)
    replace x2:=hid (XFa x2.out q9)
    replace bq:=hid (X05 bq.out q9)
    clear q9
    rcases B3 with _ | _
    ·skip
     go_wp2_with fail
     go_ret
     exact⟨rfl,bq.out⟩
    ·have ai:=fun J V VI VO Wz (oj:Old J Wz) (t:Tabs Wz) r1 r2 r3=>hP J V s VI i VO o Wz t oj aM.out ao.out av.out b4.out r1 r2 r3
     have ax:=(Stg.X3I s).1 aH.out
     have aa:=fun h=>Stg.Xyj ax aj.out ak.out h
     have I:=fun h1 h2=>Stg.Xvs ax aj.out ak.out h1 h2
     have M:=fun h1 h2 (b:List Int) (r:List (List Int)) h3=>Stg.Xvt ax aj.out ak.out h1 h2 (b:=b) (r:=r) h3
     have a9:=fun h1 h2 h3=>Stg.Xyk ax aj.out ak.out h1 h2 h3
     have au:=Stg.X6c s i o
     have bW:=ax.pend
     obtain⟨⟨t,i2,o2,ok⟩,hq⟩: ∃q,Stg.stepS s i o=q:=⟨_,rfl⟩
     rw[hq] at ai aa I M a9 au
     unfold XeD at ai
     dsimp only at ai aa I M a9 au
     have bV:=((Stg.X11 o).1 ak.out).1
     have bP:=((Stg.X11 i).1 aj.out).1
     have bX:=au.1.pend
     replace ai:=hid ai
     replace aa:=hid aa
     replace I:=hid I
     replace M:=hid M
     replace a9:=hid a9
     clear hq ax au ac ad ae
     go_upto_region 4 with(fail)
     replace hT:=hid (tabs_next hT.out (Below.refl _ _).drew)
     replace rs:=hid (X08 rs.out (Below.refl _ _).drew)
     replace ri:=hid (X01 ri.out (Below.refl _ _).drew)
     replace ro:=hid (X01 ro.out (Below.refl _ _).drew)
     replace x0:=hid (XFa x0.out (Below.refl _ _).drew)
     replace x1:=hid (XFa x1.out (Below.refl _ _).drew)
     replace x2:=hid (XFa x2.out (Below.refl _ _).drew)
     replace bq:=hid (X05 bq.out (Below.refl _ _).drew)
     have bD:=hid (show w.heap.size≤(w9).drew.heap.size from bq.out.size)
     refine RgA.X3b (J0:=fun _=>False) (X:= [0,1,2,3,4,5,6,7,8,12,13,14]) (Y:= [9,10,11]) (A:= [12,13,14]) (F:=fun fk J v wz=>match fk with | 0=>v= .agg X | 1=>v= .agg X | 2=>v= .agg Y | 3=>v= .agg Y | 4=>v= .agg Z | 5=>v= .agg Z | 6=>FT (t,i2,o2,ok) J v wz | 7=>FT (t,i2,o2,ok) J v wz | 8=>RS J wz v t | 9=>RCh J wz v i2 | 10=>RCh J wz v o2 | 11=>v= .bool ok | 12=>FPx Tryz.prog (w9).drew.heap.size zeroS 48 v wz | 13=>FPx Tryz.prog (w9).drew.heap.size zeroC 49 v wz | 14=>FPx Tryz.prog (w9).drew.heap.size zeroC 49 v wz | _=>True) _ (by kernel_rfl) (by kernel_rfl) (by kernel_rfl) (by decide) (fun c a d v wz h=>by cases d <;> exact h) (fun _ h=>h.elim) ?stable ?fresh ?self ?step ?pure ?fin
     case stable=>
      intro k J v wz c1 h hb
      match k,h with
      | 0,h=>exact h
      | 1,h=>exact h
      | 2,h=>exact h
      | 3,h=>exact h
      | 4,h=>exact h
      | 5,h=>exact h
      | 6,h=>exact X2s h hb
      | 7,h=>exact X2s h hb
      | 8,h=>exact X08 h hb
      | 9,h=>exact X01 h hb
      | 10,h=>exact X01 h hb
      | 11,h=>exact h
      | 12,h=>exact XFX h hb
      | 13,h=>exact XFX h hb
      | 14,h=>exact XFX h hb
      | _+15,h=>trivial
     case fresh=>
      intro k J v wz p h hp
      match k,h with
      | 0,h=>exact h
      | 1,h=>exact h
      | 2,h=>exact h
      | 3,h=>exact h
      | 4,h=>exact h
      | 5,h=>exact h
      | 6,h=>exact X2t h hp
      | 7,h=>exact X2t h hp
      | 8,h=>exact X5L h hp
      | 9,h=>exact X2b h hp
      | 10,h=>exact X2b h hp
      | 11,h=>exact h
      | 12,h=>exact h
      | 13,h=>exact h
      | 14,h=>exact h
      | _+15,h=>trivial
     case self=>
      intro k hk J J' v wz h
      simp only[List.mem_cons,List.not_mem_nil,or_false] at hk
      rcases hk with rfl | rfl | rfl <;> exact h
     case step=>
      simp only[List.cons_append,List.nil_append]
      refine RgA.Steps.cons (o:=⟨_,_,_,_,_,_⟩) rfl ?_ (RgA.Steps.cons (o:=⟨_,_,_,_,_,_⟩) rfl ?_ (RgA.Steps.cons (o:=⟨_,_,_,_,_,_⟩) rfl ?_ (RgA.Steps.cons (o:=⟨_,_,_,_,_,_⟩) rfl ?_ (RgA.Steps.cons (o:=⟨_,_,_,_,_,_⟩) rfl ?_ (RgA.Steps.cons (o:=⟨_,_,_,_,_,_⟩) rfl ?_ (RgA.Steps.cons (o:=⟨_,_,_,_,_,_⟩) rfl ?_ (RgA.Steps.cons (o:=⟨_,_,_,_,_,_⟩) rfl ?_ (RgA.Steps.cons (o:=⟨_,_,_,_,_,_⟩) rfl ?_ (RgA.Steps.cons (o:=⟨_,_,_,_,_,_⟩) rfl ?_ (RgA.Steps.cons (o:=⟨_,_,_,_,_,_⟩) rfl ?_ (RgA.Steps.cons (o:=⟨_,_,_,_,_,_⟩) rfl ?_ (RgA.Steps.cons (o:=⟨_,_,_,_,_,_⟩) rfl ?_ (RgA.Steps.cons (o:=⟨_,_,_,_,_,_⟩) rfl ?_ (RgA.Steps.cons (o:=⟨_,_,_,_,_,_⟩) rfl ?_ RgA.Steps.nil))))))))))))))
      ·intro y wz J hJ a6 n hd K' hK
       rw[RgA.X0q _ [(0,39),(1,40),(2,41),(3,42),(4,43),(5,44),(6,45),(7,38),(8,46),(12,8),(13,9),(14,10),(9,47),(10,48),(11,49)] (by kernel_rfl)] at hK ⊢
       simp only[RgA.mkL,List.foldl_cons,List.foldl_nil,List.setIfInBounds_toArray,List.set_cons_succ,List.set_cons_zero] at hK ⊢
       refine atL (XFa x0.out n) ?_
       have H:=hK.out (.agg X) wz (rfl) (Below.refl _ _) (fun h=>by simp at h)
       simp only[Act.put,List.setIfInBounds_toArray,List.set_cons_succ,List.set_cons_zero] at H
       exact H
      ·intro y wz J hJ a6 n hd K' hK
       have d0:(y 0)= .agg X:=hd 0 (by kernel_rfl)
       rw[RgA.X0q _ [(0,39),(1,40),(2,41),(3,42),(4,43),(5,44),(6,45),(7,38),(8,46),(12,8),(13,9),(14,10),(9,47),(10,48),(11,49)] (by kernel_rfl)] at hK ⊢
       simp only[RgA.mkL,List.foldl_cons,List.foldl_nil,List.setIfInBounds_toArray,List.set_cons_succ,List.set_cons_zero] at hK ⊢
       rw[d0] at hK ⊢
       go_simp
       refine(X4j (X08 rs.out n)).mono ?_
       rintro e w1 ⟨rfl,q0⟩
       go_wp2_with fail
       have H:=hK.out (.agg X) w1 (rfl) (q0) (fun h=>by simp at h)
       simp only[Act.put,List.setIfInBounds_toArray,List.set_cons_succ,List.set_cons_zero] at H
       exact H
      ·intro y wz J hJ a6 n hd K' hK
       rw[RgA.X0q _ [(0,39),(1,40),(2,41),(3,42),(4,43),(5,44),(6,45),(7,38),(8,46),(12,8),(13,9),(14,10),(9,47),(10,48),(11,49)] (by kernel_rfl)] at hK ⊢
       simp only[RgA.mkL,List.foldl_cons,List.foldl_nil,List.setIfInBounds_toArray,List.set_cons_succ,List.set_cons_zero] at hK ⊢
       refine atL (XFa x1.out n) ?_
       have H:=hK.out (.agg Y) wz (rfl) (Below.refl _ _) (fun h=>by simp at h)
       simp only[Act.put,List.setIfInBounds_toArray,List.set_cons_succ,List.set_cons_zero] at H
       exact H
      ·intro y wz J hJ a6 n hd K' hK
       have d2:(y 2)= .agg Y:=hd 2 (by kernel_rfl)
       rw[RgA.X0q _ [(0,39),(1,40),(2,41),(3,42),(4,43),(5,44),(6,45),(7,38),(8,46),(12,8),(13,9),(14,10),(9,47),(10,48),(11,49)] (by kernel_rfl)] at hK ⊢
       simp only[RgA.mkL,List.foldl_cons,List.foldl_nil,List.setIfInBounds_toArray,List.set_cons_succ,List.set_cons_zero] at hK ⊢
       rw[d2] at hK ⊢
       go_simp
       refine(X2r (X01 ri.out n)).mono ?_
       rintro e w1 ⟨rfl,q0⟩
       go_wp2_with fail
       have H:=hK.out (.agg Y) w1 (rfl) (q0) (fun h=>by simp at h)
       simp only[Act.put,List.setIfInBounds_toArray,List.set_cons_succ,List.set_cons_zero] at H
       exact H
      ·intro y wz J hJ a6 n hd K' hK
       rw[RgA.X0q _ [(0,39),(1,40),(2,41),(3,42),(4,43),(5,44),(6,45),(7,38),(8,46),(12,8),(13,9),(14,10),(9,47),(10,48),(11,49)] (by kernel_rfl)] at hK ⊢
       simp only[RgA.mkL,List.foldl_cons,List.foldl_nil,List.setIfInBounds_toArray,List.set_cons_succ,List.set_cons_zero] at hK ⊢
       refine atL (XFa x2.out n) ?_
       have H:=hK.out (.agg Z) wz (rfl) (Below.refl _ _) (fun h=>by simp at h)
       simp only[Act.put,List.setIfInBounds_toArray,List.set_cons_succ,List.set_cons_zero] at H
       exact H
      ·intro y wz J hJ a6 n hd K' hK
       have d4:(y 4)= .agg Z:=hd 4 (by kernel_rfl)
       rw[RgA.X0q _ [(0,39),(1,40),(2,41),(3,42),(4,43),(5,44),(6,45),(7,38),(8,46),(12,8),(13,9),(14,10),(9,47),(10,48),(11,49)] (by kernel_rfl)] at hK ⊢
       simp only[RgA.mkL,List.foldl_cons,List.foldl_nil,List.setIfInBounds_toArray,List.set_cons_succ,List.set_cons_zero] at hK ⊢
       rw[d4] at hK ⊢
       go_simp
       refine(X2r (X01 ro.out n)).mono ?_
       rintro e w1 ⟨rfl,q0⟩
       go_wp2_with fail
       have H:=hK.out (.agg Z) w1 (rfl) (q0) (fun h=>by simp at h)
       simp only[Act.put,List.setIfInBounds_toArray,List.set_cons_succ,List.set_cons_zero] at H
       exact H
      ·intro y wz J hJ a6 n hd K' hK
       have d1:(y 1)= .agg X:=hd 1 (by kernel_rfl)
       have d3:(y 3)= .agg Y:=hd 3 (by kernel_rfl)
       have d5:(y 5)= .agg Z:=hd 5 (by kernel_rfl)
       rw[RgA.X0q _ [(0,39),(1,40),(2,41),(3,42),(4,43),(5,44),(6,45),(7,38),(8,46),(12,8),(13,9),(14,10),(9,47),(10,48),(11,49)] (by kernel_rfl)] at hK ⊢
       simp only[RgA.mkL,List.foldl_cons,List.foldl_nil,List.setIfInBounds_toArray,List.set_cons_succ,List.set_cons_zero] at hK ⊢
       rw[d1,d3,d5] at hK ⊢
       go_simp
       refine(ai.out J _ _ _ wz (fun j h=>(hJ j h).1) (tabs_next hT.out n) (X08 (X3s rs.out (fun j hj h=>(hJ j h).2.elim (fun h=>h) (fun h=>absurd hj (Nat.not_lt.2 h)))) n) (X01 (X0Q ri.out (fun j hj h=>(hJ j h).2.elim (fun h=>h) (fun h=>absurd hj (Nat.not_lt.2 h)))) n) (X01 (X0Q ro.out (fun j hj h=>(hJ j h).2.elim (fun h=>h) (fun h=>absurd hj (Nat.not_lt.2 h)))) n)).mono ?_
       rintro e w1 ⟨vs,vi,vo,rfl,r1,r2,r3,q0⟩
       go_wp2_with fail
       have H:=hK.out (.tuple #[vs,vi,vo, .bool ok]) w1 (⟨vs,vi,vo,rfl,r1,r2,r3⟩) (q0) (fun h=>by simp at h)
       simp only[Act.put,List.setIfInBounds_toArray,List.set_cons_succ,List.set_cons_zero] at H
       exact H
      ·intro y wz J hJ a6 n hd K' hK
       have d6:FT (t,i2,o2,ok) J (y 6) wz:=hd 6 (by kernel_rfl)
       rw[RgA.X0q _ [(0,39),(1,40),(2,41),(3,42),(4,43),(5,44),(6,45),(7,38),(8,46),(12,8),(13,9),(14,10),(9,47),(10,48),(11,49)] (by kernel_rfl)] at hK ⊢
       simp only[RgA.mkL,List.foldl_cons,List.foldl_nil,List.setIfInBounds_toArray,List.set_cons_succ,List.set_cons_zero] at hK ⊢
       go_simp
       have H:=hK.out (y 6) wz (d6) (Below.refl _ _) (fun h=>by simp at h)
       simp only[Act.put,List.setIfInBounds_toArray,List.set_cons_succ,List.set_cons_zero] at H
       exact H
      ·intro y wz J hJ a6 n hd K' hK
       have d7:FT (t,i2,o2,ok) J (y 7) wz:=hd 7 (by kernel_rfl)
       rw[RgA.X0q _ [(0,39),(1,40),(2,41),(3,42),(4,43),(5,44),(6,45),(7,38),(8,46),(12,8),(13,9),(14,10),(9,47),(10,48),(11,49)] (by kernel_rfl)] at hK ⊢
       simp only[RgA.mkL,List.foldl_cons,List.foldl_nil,List.setIfInBounds_toArray,List.set_cons_succ,List.set_cons_zero] at hK ⊢
       obtain⟨vs,vi,vo,e7,r1,r2,r3⟩:=X18 d7
       try dsimp only at e7 r1 r2 r3
       rw[e7] at hK ⊢
       clear e7
       go_simp
       have H:=hK.out (vs) wz (r1) (Below.refl _ _) (fun h=>by simp at h)
       simp only[Act.put,List.setIfInBounds_toArray,List.set_cons_succ,List.set_cons_zero] at H
       exact H
      ·intro y wz J hJ a6 n hd K' hK
       rw[RgA.X0q _ [(0,39),(1,40),(2,41),(3,42),(4,43),(5,44),(6,45),(7,38),(8,46),(12,8),(13,9),(14,10),(9,47),(10,48),(11,49)] (by kernel_rfl)] at hK ⊢
       simp only[RgA.mkL,List.foldl_cons,List.foldl_nil,List.setIfInBounds_toArray,List.set_cons_succ,List.set_cons_zero] at hK ⊢
       go_simp
       have H:=hK.out (.pointer (some ⟨wz.heap.size,0,none⟩)) (wz.alloc (.cells zeroS 48)) (⟨_,rfl,n.size,XFb wz_S wz⟩) (X04 wz _) (fun _=>XFZ wz _)
       simp only[Act.put,List.setIfInBounds_toArray,List.set_cons_succ,List.set_cons_zero] at H
       exact H
      ·intro y wz J hJ a6 n hd K' hK
       rw[RgA.X0q _ [(0,39),(1,40),(2,41),(3,42),(4,43),(5,44),(6,45),(7,38),(8,46),(12,8),(13,9),(14,10),(9,47),(10,48),(11,49)] (by kernel_rfl)] at hK ⊢
       simp only[RgA.mkL,List.foldl_cons,List.foldl_nil,List.setIfInBounds_toArray,List.set_cons_succ,List.set_cons_zero] at hK ⊢
       go_simp
       have H:=hK.out (.pointer (some ⟨wz.heap.size,0,none⟩)) (wz.alloc (.cells zeroC 49)) (⟨_,rfl,n.size,XFb wz_C wz⟩) (X04 wz _) (fun _=>XFZ wz _)
       simp only[Act.put,List.setIfInBounds_toArray,List.set_cons_succ,List.set_cons_zero] at H
       exact H
      ·intro y wz J hJ a6 n hd K' hK
       rw[RgA.X0q _ [(0,39),(1,40),(2,41),(3,42),(4,43),(5,44),(6,45),(7,38),(8,46),(12,8),(13,9),(14,10),(9,47),(10,48),(11,49)] (by kernel_rfl)] at hK ⊢
       simp only[RgA.mkL,List.foldl_cons,List.foldl_nil,List.setIfInBounds_toArray,List.set_cons_succ,List.set_cons_zero] at hK ⊢
       go_simp
       have H:=hK.out (.pointer (some ⟨wz.heap.size,0,none⟩)) (wz.alloc (.cells zeroC 49)) (⟨_,rfl,n.size,XFb wz_C wz⟩) (X04 wz _) (fun _=>XFZ wz _)
       simp only[Act.put,List.setIfInBounds_toArray,List.set_cons_succ,List.set_cons_zero] at H
       exact H
      ·intro y wz J hJ a6 n hd K' hK
       have d7:FT (t,i2,o2,ok) J (y 7) wz:=hd 7 (by kernel_rfl)
       rw[RgA.X0q _ [(0,39),(1,40),(2,41),(3,42),(4,43),(5,44),(6,45),(7,38),(8,46),(12,8),(13,9),(14,10),(9,47),(10,48),(11,49)] (by kernel_rfl)] at hK ⊢
       simp only[RgA.mkL,List.foldl_cons,List.foldl_nil,List.setIfInBounds_toArray,List.set_cons_succ,List.set_cons_zero] at hK ⊢
       obtain⟨vs,vi,vo,e7,r1,r2,r3⟩:=X18 d7
       try dsimp only at e7 r1 r2 r3
       rw[e7] at hK ⊢
       clear e7
       go_simp
       have H:=hK.out (vi) wz (r2) (Below.refl _ _) (fun h=>by simp at h)
       simp only[Act.put,List.setIfInBounds_toArray,List.set_cons_succ,List.set_cons_zero] at H
       exact H
      ·intro y wz J hJ a6 n hd K' hK
       have d7:FT (t,i2,o2,ok) J (y 7) wz:=hd 7 (by kernel_rfl)
       rw[RgA.X0q _ [(0,39),(1,40),(2,41),(3,42),(4,43),(5,44),(6,45),(7,38),(8,46),(12,8),(13,9),(14,10),(9,47),(10,48),(11,49)] (by kernel_rfl)] at hK ⊢
       simp only[RgA.mkL,List.foldl_cons,List.foldl_nil,List.setIfInBounds_toArray,List.set_cons_succ,List.set_cons_zero] at hK ⊢
       obtain⟨vs,vi,vo,e7,r1,r2,r3⟩:=X18 d7
       try dsimp only at e7 r1 r2 r3
       rw[e7] at hK ⊢
       clear e7
       go_simp
       have H:=hK.out (vo) wz (r3) (Below.refl _ _) (fun h=>by simp at h)
       simp only[Act.put,List.setIfInBounds_toArray,List.set_cons_succ,List.set_cons_zero] at H
       exact H
      ·intro y wz J hJ a6 n hd K' hK
       have d7:FT (t,i2,o2,ok) J (y 7) wz:=hd 7 (by kernel_rfl)
       rw[RgA.X0q _ [(0,39),(1,40),(2,41),(3,42),(4,43),(5,44),(6,45),(7,38),(8,46),(12,8),(13,9),(14,10),(9,47),(10,48),(11,49)] (by kernel_rfl)] at hK ⊢
       simp only[RgA.mkL,List.foldl_cons,List.foldl_nil,List.setIfInBounds_toArray,List.set_cons_succ,List.set_cons_zero] at hK ⊢
       obtain⟨vs,vi,vo,e7,r1,r2,r3⟩:=X18 d7
       try dsimp only at e7 r1 r2 r3
       rw[e7] at hK ⊢
       clear e7
       go_simp
       have H:=hK.out (.bool ok) wz (rfl) (Below.refl _ _) (fun h=>by simp at h)
       simp only[Act.put,List.setIfInBounds_toArray,List.set_cons_succ,List.set_cons_zero] at H
       exact H
     case pure=>
      refine RgA.Pures.cons rfl ?_ (RgA.Pures.cons rfl ?_ (RgA.Pures.cons rfl ?_ RgA.Pures.nil))
      ·intro y wz J hd
       have d7:FT (t,i2,o2,ok) J (y 7) wz:=hd 7 (by kernel_rfl)
       obtain⟨vs,vi,vo,e7,r1,r2,r3⟩:=X18 d7
       refine⟨vi,r2,?_⟩
       rw[RgA.X0q _ [(0,39),(1,40),(2,41),(3,42),(4,43),(5,44),(6,45),(7,38),(8,46),(12,8),(13,9),(14,10),(9,47),(10,48),(11,49)] (by kernel_rfl)]
       simp only[RgA.mkL,List.foldl_cons,List.foldl_nil,List.setIfInBounds_toArray,List.set_cons_succ,List.set_cons_zero]
       rw[e7]
       refine⟨by kernel_rfl,fun w'=>?_⟩
       go_simp
      ·intro y wz J hd
       have d7:FT (t,i2,o2,ok) J (y 7) wz:=hd 7 (by kernel_rfl)
       obtain⟨vs,vi,vo,e7,r1,r2,r3⟩:=X18 d7
       refine⟨vo,r3,?_⟩
       rw[RgA.X0q _ [(0,39),(1,40),(2,41),(3,42),(4,43),(5,44),(6,45),(7,38),(8,46),(12,8),(13,9),(14,10),(9,47),(10,48),(11,49)] (by kernel_rfl)]
       simp only[RgA.mkL,List.foldl_cons,List.foldl_nil,List.setIfInBounds_toArray,List.set_cons_succ,List.set_cons_zero]
       rw[e7]
       refine⟨by kernel_rfl,fun w'=>?_⟩
       go_simp
      ·intro y wz J hd
       have d7:FT (t,i2,o2,ok) J (y 7) wz:=hd 7 (by kernel_rfl)
       obtain⟨vs,vi,vo,e7,r1,r2,r3⟩:=X18 d7
       refine⟨.bool ok,rfl,?_⟩
       rw[RgA.X0q _ [(0,39),(1,40),(2,41),(3,42),(4,43),(5,44),(6,45),(7,38),(8,46),(12,8),(13,9),(14,10),(9,47),(10,48),(11,49)] (by kernel_rfl)]
       simp only[RgA.mkL,List.foldl_cons,List.foldl_nil,List.setIfInBounds_toArray,List.set_cons_succ,List.set_cons_zero]
       rw[e7]
       refine⟨by kernel_rfl,fun w'=>?_⟩
       go_simp
     intro y ay bj J bB aI bC hF aL
     have f8:RS J ay (y 8) t:=hF 8 (by decide)
     have f9:RCh J ay (y 9) i2:=hF 9 (by decide)
     have ab:RCh J ay (y 10) o2:=hF 10 (by decide)
     have aX:y 11= .bool ok:=hF 11 (by decide)
     obtain⟨p9,az,br,x9⟩:FPx Tryz.prog (w9).drew.heap.size zeroS 48 (y 12) ay:=hF 12 (by decide)
     obtain⟨aP,aA,aU,am⟩:FPx Tryz.prog (w9).drew.heap.size zeroC 49 (y 13) ay:=hF 13 (by decide)
     obtain⟨aF,aB,aV,an⟩:FPx Tryz.prog (w9).drew.heap.size zeroC 49 (y 14) ay:=hF 14 (by decide)
     have n1:p9≠aP:=fun h=>aL 12 (by decide) 13 (by decide) (by decide) (by rw[az,aA,h])
     have n2:p9≠aF:=fun h=>aL 12 (by decide) 14 (by decide) (by decide) (by rw[az,aB,h])
     have n3:aP≠aF:=fun h=>aL 13 (by decide) 14 (by decide) (by decide) (by rw[aA,aB,h])
     have j9:=aI 12 (by decide) p9 az
     have bw:=aI 13 (by decide) aP aA
     have bx:=aI 14 (by decide) aF aB
     try dsimp only at f8 f9 ab aX
     obtain⟨XT,e8,a1,a2⟩:=rs_x f8
     obtain⟨YT,e9,b1,b2,_⟩:=rch_x f9
     obtain⟨ZT,aW,g1,g2,_⟩:=rch_x ab
     have v9:=wx_S a1 a2
     have aQ:=wx_C b1 b2
     have aR:=wx_C g1 g2
     unfold TO17 at v9
     unfold TO16 at aQ aR
     rw[e8] at f8
     rw[e9] at f9
     rw[aW] at ab
     rw[RgA.X0q _ [(0,39),(1,40),(2,41),(3,42),(4,43),(5,44),(6,45),(7,38),(8,46),(12,8),(13,9),(14,10),(9,47),(10,48),(11,49)] (by kernel_rfl)]
     simp only[RgA.mkL,List.foldl_cons,List.foldl_nil,List.setIfInBounds_toArray,List.set_cons_succ,List.set_cons_zero]
     rw[az,aA,aB,e8,e9,aW,aX]
     clear e8 e9 aW aX az aA aB aL bB aI hF a1 a2 b1 b2 g1 g2
     refine' tkS 15 rfl x9 v9 (fun bZ p=>?_)
     have b0:=p.below _ _ br bj
     have u:=XFf (J:=J) p j9
     refine⟨b0,?_⟩
     try simp only[putA]
     replace f8:=X3f f8 u
     replace f9:=X0L f9 u
     replace ab:=X0L ab u
     replace x9:=XFg p v9
     replace am:=XFh am p n1.symm
     replace an:=XFh an p n2.symm
     clear u p
     refine' tkS 16 rfl am aQ (fun c0 p=>?_)
     have b3:=p.below _ _ aU b0
     have u:=XFf (J:=J) p bw
     refine⟨b3,?_⟩
     try simp only[putA]
     replace f8:=X3f f8 u
     replace f9:=X0L f9 u
     replace ab:=X0L ab u
     replace am:=XFg p aQ
     replace x9:=XFh x9 p n1
     replace an:=XFh an p n3.symm
     clear u p
     refine' tkS 17 rfl an aR (fun wd p=>?_)
     have aK:=p.below _ _ aV b3
     have u:=XFf (J:=J) p bx
     refine⟨aK,?_⟩
     try simp only[putA]
     replace f8:=X3f f8 u
     replace f9:=X0L f9 u
     replace ab:=X0L ab u
     replace an:=XFg p aR
     replace x9:=XFh x9 p n2
     replace am:=XFh am p n3
     clear u p
     refine' tk 18 rfl aK ?_
     try simp only[putA]
     refine wpAnyH_done (by kernel_rfl) ?_ _
     have rt:=hid (X3s (K:=N0) f8 (fun _ _ h=>h.elim))
     have rj:=hid (X0Q (K:=N0) f9 (fun _ _ h=>h.elim))
     have rp:=hid (X0Q (K:=N0) ab (fun _ _ h=>h.elim))
     have xt:=hid x9
     have xj:=hid am
     have xp:=hid an
     have qz:=aK
     clear f8 f9 ab x9 am an bj b0 b3 aK bC n1 n2 n3 j9 bw bx br aU aV bD v9 aQ aR
     replace hT:=hid (tabs_next hT.out qz)
     replace rs:=hid (X08 rs.out qz)
     replace ri:=hid (X01 ri.out qz)
     replace ro:=hid (X01 ro.out qz)
     replace x0:=hid (XFa x0.out qz)
     replace x1:=hid (XFa x1.out qz)
     replace x2:=hid (XFa x2.out qz)
     replace bq:=hid (X05 bq.out qz)
     clear qz
     rcases ok with _ | _
     ·skip
      go_wp2_with fail
      go_ret
      exact⟨rfl,bq.out⟩
     ·skip
      obtain⟨_,⟨pp,cp,a7,al⟩,D,_,_⟩:=XFp rs.out
      obtain⟨⟨pi,ki,ah,_⟩,_⟩:=XG0 ri.out
      obtain⟨⟨po,ko,a8,_⟩,_⟩:=XG0 ro.out
      obtain⟨_,⟨tp,tc,a4,aG⟩,E,G,_⟩:=XFp rt.out
      obtain⟨⟨qi,qk,af,_⟩,_⟩:=XG0 rj.out
      obtain⟨⟨qo,qc,a5,aC⟩,ag⟩:=XG0 rp.out
      replace a7:=hid a7
      replace D:=hid D
      replace ah:=hid ah
      replace a8:=hid a8
      replace a4:=hid a4
      replace E:=hid E
      replace G:=hid G
      replace af:=hid af
      replace a5:=hid a5
      replace ag:=hid ag
      by_cases hp:s.pend= []
      ·have bG: ¬(0:Int)<(s.pend.length:Int):=by rw[hp];simp
       cases he:s.ended with
       |
        true=>
        have hq:=I.out hp he rfl
        simp only[Prod.mk.injEq,and_true] at hq
        obtain⟨ht,rfl,aw⟩:=hq
        have bu:t.shut=true:=by rw[ht]
        have bU:o2.closed=true:=by rw[aw]
        have bo:(o2.L.length:Int)=(o.L.length:Int):=by rw[aw]
        rw[he] at D
        clear ht aw aa I M a9 ai al aG aC
        have N:=XFe x0.out 9 _ a7.out
        have x:=XFe x0.out 10 _ D.out
        have O:=XFe x1.out 0 _ ah.out
        have P:=XFe x2.out 0 _ a8.out
        have a3:=XFe xt.out 9 _ a4.out
        have z:=XFe xt.out 10 _ E.out
        have C:=XFe xt.out 11 _ G.out
        have R:=XFe xj.out 0 _ af.out
        have U:=XFe xp.out 0 _ a5.out
        have a0:=XFe xp.out 1 _ ag.out
        go_wp2_with (first | refine ldX x0.out ?_ | refine ldX x1.out ?_ | refine ldX x2.out ?_ | refine ldX xt.out ?_ | refine ldX xj.out ?_ | refine ldX xp.out ?_)
        refine(X8h ao.out rj.out ri.out).mono ?_
        rintro e aS ⟨rfl,f⟩
        clear N x O P a3 z C R U a0
        replace hT:=hid (tabs_next hT.out f)
        replace rs:=hid (X08 rs.out f)
        replace ri:=hid (X01 ri.out f)
        replace ro:=hid (X01 ro.out f)
        replace x0:=hid (XFa x0.out f)
        replace x1:=hid (XFa x1.out f)
        replace x2:=hid (XFa x2.out f)
        replace rt:=hid (X08 rt.out f)
        replace rj:=hid (X01 rj.out f)
        replace rp:=hid (X01 rp.out f)
        replace xt:=hid (XFa xt.out f)
        replace xj:=hid (XFa xj.out f)
        replace xp:=hid (XFa xp.out f)
        replace bq:=hid (X05 bq.out f)
        clear f
        have N:=XFe x0.out 9 _ a7.out
        have x:=XFe x0.out 10 _ D.out
        have O:=XFe x1.out 0 _ ah.out
        have P:=XFe x2.out 0 _ a8.out
        have a3:=XFe xt.out 9 _ a4.out
        have z:=XFe xt.out 10 _ E.out
        have C:=XFe xt.out 11 _ G.out
        have R:=XFe xj.out 0 _ af.out
        have U:=XFe xp.out 0 _ a5.out
        have a0:=XFe xp.out 1 _ ag.out
        go_wp2_with fail
        go_ret
        exact⟨rfl,bq.out⟩
       |
        false=>
        rw[he] at D
        cases hL:i.L with
        |
         cons b r=>
         have hq:=M.out hp he b r hL
         simp only[Prod.mk.injEq,and_true] at hq
         obtain⟨ht,bm,rfl⟩:=hq
         have aN:t.ended=false:=by rw[ht]
         have bQ:i2.L.length+1=i.L.length:=by rw[bm,hL];rfl
         have bE:(0:Int)<(i.L.length:Int):=by omega
         have bJ:IntKind.i64.wrap ((i.L.length:Int) - 1)=(i2.L.length:Int):=by rw[IntKind.wrap_i64] <;> omega
         have bF:((i2.L.length:Int) == (i2.L.length:Int))=true:=by simp
         clear ht bm hL aa I M a9 ai al aG aC
         have N:=XFe x0.out 9 _ a7.out
         have x:=XFe x0.out 10 _ D.out
         have O:=XFe x1.out 0 _ ah.out
         have P:=XFe x2.out 0 _ a8.out
         have a3:=XFe xt.out 9 _ a4.out
         have z:=XFe xt.out 10 _ E.out
         have C:=XFe xt.out 11 _ G.out
         have R:=XFe xj.out 0 _ af.out
         have U:=XFe xp.out 0 _ a5.out
         have a0:=XFe xp.out 1 _ ag.out
         go_wp2_with (first | refine ldX x0.out ?_ | refine ldX x1.out ?_ | refine ldX x2.out ?_ | refine ldX xt.out ?_ | refine ldX xj.out ?_ | refine ldX xp.out ?_)
         refine(X8h av.out rp.out ro.out).mono ?_
         rintro e aS ⟨rfl,f⟩
         clear N x O P a3 z C R U a0
         replace hT:=hid (tabs_next hT.out f)
         replace rs:=hid (X08 rs.out f)
         replace ri:=hid (X01 ri.out f)
         replace ro:=hid (X01 ro.out f)
         replace x0:=hid (XFa x0.out f)
         replace x1:=hid (XFa x1.out f)
         replace x2:=hid (XFa x2.out f)
         replace rt:=hid (X08 rt.out f)
         replace rj:=hid (X01 rj.out f)
         replace rp:=hid (X01 rp.out f)
         replace xt:=hid (XFa xt.out f)
         replace xj:=hid (XFa xj.out f)
         replace xp:=hid (XFa xp.out f)
         replace bq:=hid (X05 bq.out f)
         clear f
         have N:=XFe x0.out 9 _ a7.out
         have x:=XFe x0.out 10 _ D.out
         have O:=XFe x1.out 0 _ ah.out
         have P:=XFe x2.out 0 _ a8.out
         have a3:=XFe xt.out 9 _ a4.out
         have z:=XFe xt.out 10 _ E.out
         have C:=XFe xt.out 11 _ G.out
         have R:=XFe xj.out 0 _ af.out
         have U:=XFe xp.out 0 _ a5.out
         have a0:=XFe xp.out 1 _ ag.out
         go_wp2_with fail
         go_ret
         exact⟨rfl,bq.out⟩
        |
         nil=>
         obtain⟨hq,_⟩:=a9.out hp he hL rfl
         simp only[Prod.mk.injEq,and_true] at hq
         obtain⟨ht,rfl,rfl⟩:=hq
         have aN:t.ended=true:=by rw[ht]
         have bu:t.shut=false:=by rw[ht]
         have bE: ¬(0:Int)<(i2.L.length:Int):=by rw[hL];simp
         clear ht hL aa I M a9 ai al aG aC
         have N:=XFe x0.out 9 _ a7.out
         have x:=XFe x0.out 10 _ D.out
         have O:=XFe x1.out 0 _ ah.out
         have P:=XFe x2.out 0 _ a8.out
         have a3:=XFe xt.out 9 _ a4.out
         have z:=XFe xt.out 10 _ E.out
         have C:=XFe xt.out 11 _ G.out
         have R:=XFe xj.out 0 _ af.out
         have U:=XFe xp.out 0 _ a5.out
         have a0:=XFe xp.out 1 _ ag.out
         go_wp2_with (first | refine ldX x0.out ?_ | refine ldX x1.out ?_ | refine ldX x2.out ?_ | refine ldX xt.out ?_ | refine ldX xj.out ?_ | refine ldX xp.out ?_)
         refine(X8h ao.out rj.out ri.out).mono ?_
         rintro e aS ⟨rfl,f⟩
         clear N x O P a3 z C R U a0
         replace hT:=hid (tabs_next hT.out f)
         replace rs:=hid (X08 rs.out f)
         replace ri:=hid (X01 ri.out f)
         replace ro:=hid (X01 ro.out f)
         replace x0:=hid (XFa x0.out f)
         replace x1:=hid (XFa x1.out f)
         replace x2:=hid (XFa x2.out f)
         replace rt:=hid (X08 rt.out f)
         replace rj:=hid (X01 rj.out f)
         replace rp:=hid (X01 rp.out f)
         replace xt:=hid (XFa xt.out f)
         replace xj:=hid (XFa xj.out f)
         replace xp:=hid (XFa xp.out f)
         replace bq:=hid (X05 bq.out f)
         clear f
         have N:=XFe x0.out 9 _ a7.out
         have x:=XFe x0.out 10 _ D.out
         have O:=XFe x1.out 0 _ ah.out
         have P:=XFe x2.out 0 _ a8.out
         have a3:=XFe xt.out 9 _ a4.out
         have z:=XFe xt.out 10 _ E.out
         have C:=XFe xt.out 11 _ G.out
         have R:=XFe xj.out 0 _ af.out
         have U:=XFe xp.out 0 _ a5.out
         have a0:=XFe xp.out 1 _ ag.out
         go_wp2_with (first | refine ldX x0.out ?_ | refine ldX x1.out ?_ | refine ldX x2.out ?_ | refine ldX xt.out ?_ | refine ldX xj.out ?_ | refine ldX xp.out ?_)
         refine(X8h av.out rp.out ro.out).mono ?_
         rintro e bA ⟨rfl,g⟩
         clear N x O P a3 z C R U a0
         replace hT:=hid (tabs_next hT.out g)
         replace rs:=hid (X08 rs.out g)
         replace ri:=hid (X01 ri.out g)
         replace ro:=hid (X01 ro.out g)
         replace x0:=hid (XFa x0.out g)
         replace x1:=hid (XFa x1.out g)
         replace x2:=hid (XFa x2.out g)
         replace rt:=hid (X08 rt.out g)
         replace rj:=hid (X01 rj.out g)
         replace rp:=hid (X01 rp.out g)
         replace xt:=hid (XFa xt.out g)
         replace xj:=hid (XFa xj.out g)
         replace xp:=hid (XFa xp.out g)
         replace bq:=hid (X05 bq.out g)
         clear g
         have N:=XFe x0.out 9 _ a7.out
         have x:=XFe x0.out 10 _ D.out
         have O:=XFe x1.out 0 _ ah.out
         have P:=XFe x2.out 0 _ a8.out
         have a3:=XFe xt.out 9 _ a4.out
         have z:=XFe xt.out 10 _ E.out
         have C:=XFe xt.out 11 _ G.out
         have R:=XFe xj.out 0 _ af.out
         have U:=XFe xp.out 0 _ a5.out
         have a0:=XFe xp.out 1 _ ag.out
         go_wp2_with fail
         go_ret
         exact⟨rfl,bq.out⟩
      ·have bs:0<s.pend.length:=List.length_pos_iff.2 hp
       have bG:(0:Int)<(s.pend.length:Int):=by omega
       obtain⟨hq,_,bn⟩:=aa.out hp rfl
       simp only[Prod.mk.injEq,and_true] at hq
       obtain⟨ht,rfl,aw⟩:=hq
       obtain⟨NK,bc⟩: ∃NK:Nat,NK=min s.pend.length 8:=⟨_,rfl⟩
       have aY:NK≤s.pend.length:=by omega
       have bM:(1:Int)≤(NK:Int):=by omega
       have bN:(NK:Int)≤8:=by omega
       have bv:s.pend.take 8=s.pend.take NK:=by
        rcases Nat.le_total s.pend.length 8 with h | h
        ·rw[List.take_of_length_le h,List.take_of_length_le (by omega)]
        ·rw[show NK=8 by omega]
       have bl:s.pend.drop 8=s.pend.drop NK:=by
        rcases Nat.le_total s.pend.length 8 with h | h
        ·rw[List.drop_of_length_le h,List.drop_of_length_le (by omega)]
        ·rw[show NK=8 by omega]
       have bu:t.shut=false:=by rw[ht]
       have aN:t.ended=s.ended:=by rw[ht]
       have b9:t.pend=s.pend.drop NK:=by rw[ht,←bl]
       have bH:t.pend.length+NK=s.pend.length:=by rw[b9,List.length_drop];omega
       have bY:IntKind.i64.wrap ((s.pend.length:Int) - (t.pend.length:Int))=(NK:Int):=by rw[IntKind.wrap_i64] <;> omega
       have b8:o2.L=o.L++ [s.pend.take NK]:=by rw[aw,←bv]
       have bo:o2.L.length=o.L.length+1:=by rw[b8];simp
       obtain⟨rb,bz,rfl,_,_,bt⟩:=XmG aC (by omega)
       obtain⟨uu,xr,aO⟩:=bt o.L.length (by omega)
       obtain⟨T8,ap⟩: ∃T,s.pend.take NK=T:=⟨_,rfl⟩
       have aZ:T8.length≤1000:=by rw[←ap,List.length_take];omega
       have aE:o2.L[o.L.length]'(by omega)=T8:=by simp only[b8,ap];simp
       rw[aE] at aO
       obtain⟨pu,cu,rfl⟩:=X0b aO.1
       have ru:=hid aO.1
       obtain⟨pb,bK,rfl,_,_⟩:=ri_at al.1 bs
       have bk:=(Xfw al.1).2.1
       have bb:=XFK al NK aY
       rw[ap] at bb
       have rq:=hid bb.1
       obtain⟨pd,cd,ba,ar⟩:=XFI al aY bs
       rw[←b9] at ba ar
       have rd:=hid ba.1
       have rz:=hid aG.1
       replace xr:=hid xr
       replace ar:=hid ar
       have bI:t.pend.length≤100000:=by omega
       have bR:(o.L.length:Int)<(o2.L.length:Int):=by omega
       have bS:(0:Int)≤(o.L.length:Int):=by omega
       have bT:(o.L.length:Int)<(o.L.length:Int)+1:=by omega
       have bF:((o2.L.length:Int) == (o.L.length:Int)+1)=true:=by simp [bo]
       have bL:(o2.L.length:Int)=(o.L.length:Int)+1:=by omega
       have bJ:IntKind.i64.wrap ((o.L.length:Int)+1)=(o.L.length:Int)+1:=by rw[IntKind.wrap_i64] <;> omega
       have bO:(t.ended == s.ended)=true:=by rw[aN];exact X9k _
       have aT:T8.length≤100000:=by omega
       clear aZ
       have aZ:=aT
       clear aT ht aw b8 bv bl b9 bH ap aE aO bt bc al aG aC bb ba aa I M a9 ai bn aN
       have N:=XFe x0.out 9 _ a7.out
       have x:=XFe x0.out 10 _ D.out
       have O:=XFe x1.out 0 _ ah.out
       have P:=XFe x2.out 0 _ a8.out
       have a3:=XFe xt.out 9 _ a4.out
       have z:=XFe xt.out 10 _ E.out
       have C:=XFe xt.out 11 _ G.out
       have R:=XFe xj.out 0 _ af.out
       have U:=XFe xp.out 0 _ a5.out
       have a0:=XFe xp.out 1 _ ag.out
       go_upto_region 9 with(fail)
       clear N x O P a3 z C R U a0
       refine wp_region_held_drew (S:=fun W=>Bx Tryz.prog W (aP) YT 49∧Bx Tryz.prog W (w.heap.size+1) Y 37∧Bx Tryz.prog W (p9) XT 48∧Bx Tryz.prog W (aF) ZT 49∧Bx Tryz.prog W (w.heap.size+1+1) Z 37∧Bx Tryz.prog W (w.heap.size) X 34∧W.cell? ⟨p9,9,none⟩=some (.slice tp t.pend.length tc)∧W.cell? ⟨p9,10,none⟩=some (.bool t.ended)∧W.cell? ⟨p9,11,none⟩=some (.bool t.shut)∧W.cell? ⟨aF,0,none⟩=some (.slice (some ⟨rb,bz,none⟩) o2.L.length qc)∧W.cell? ⟨w.heap.size+1+1,0,none⟩=some (.slice po o.L.length ko)∧W.cell? ⟨w.heap.size,9,none⟩=some (.slice (some ⟨pb,bK,none⟩) s.pend.length cp)∧W.cell? ⟨w.heap.size,10,none⟩=some (.bool s.ended)∧W.cell? ⟨rb,bz+o.L.length,none⟩=some (.slice pu T8.length cu)) (by kernel_rfl) ⟨XFa xj.out (Below.refl _ _).drew,XFa x1.out (Below.refl _ _).drew,XFa xt.out (Below.refl _ _).drew,XFa xp.out (Below.refl _ _).drew,XFa x2.out (Below.refl _ _).drew,XFa x0.out (Below.refl _ _).drew,XFe xt.out 9 _ a4.out,XFe xt.out 10 _ E.out,XFe xt.out 11 _ G.out,XFe xp.out 0 _ a5.out,XFe x2.out 0 _ a8.out,XFe x0.out 9 _ a7.out,XFe x0.out 10 _ D.out,xr.out⟩ (fun hS=>?_)
       replace hT:=hid (tabs_next hT.out (Below.refl _ _).drew)
       replace rs:=hid (X08 rs.out (Below.refl _ _).drew)
       replace ri:=hid (X01 ri.out (Below.refl _ _).drew)
       replace ro:=hid (X01 ro.out (Below.refl _ _).drew)
       replace x0:=hid (XFa x0.out (Below.refl _ _).drew)
       replace x1:=hid (XFa x1.out (Below.refl _ _).drew)
       replace x2:=hid (XFa x2.out (Below.refl _ _).drew)
       replace rt:=hid (X08 rt.out (Below.refl _ _).drew)
       replace rj:=hid (X01 rj.out (Below.refl _ _).drew)
       replace rp:=hid (X01 rp.out (Below.refl _ _).drew)
       replace xt:=hid (XFa xt.out (Below.refl _ _).drew)
       replace xj:=hid (XFa xj.out (Below.refl _ _).drew)
       replace xp:=hid (XFa xp.out (Below.refl _ _).drew)
       replace xr:=hid (X0f xr.out (Below.refl _ _).drew)
       replace ru:=hid (X03 ru.out (Below.refl _ _).drew)
       replace rz:=hid (X03 rz.out (Below.refl _ _).drew)
       replace rq:=hid (X03 rq.out (Below.refl _ _).drew)
       replace rd:=hid (X03 rd.out (Below.refl _ _).drew)
       replace bq:=hid (X05 bq.out (Below.refl _ _).drew)
       refine' tk 0 rfl hS ?_
       try simp only[putA]
       refine' tk 1 rfl hS ?_
       try simp only[putA]
       refine' tkL 2 rfl (fun _ h=>h.1) hS ?_
       try simp only[putA]
       refine' tkL 3 rfl (fun _ h=>h.2.1) hS ?_
       try simp only[putA]
       refine rdy 4 rfl fun K hK=>?_
       go_simp
       go_at_call 16
       refine(X8h ao.out rj.out ri.out).mono ?_
       rintro e aS ⟨rfl,f⟩
       go_wp2_with fail
       refine hK.out _ _ (⟨XFa hS.1 f,XFa hS.2.1 f,XFa hS.2.2.1 f,XFa hS.2.2.2.1 f,XFa hS.2.2.2.2.1 f,XFa hS.2.2.2.2.2.1 f,XFe (XFa hS.2.2.1 f) 9 _ a4.out,XFe (XFa hS.2.2.1 f) 10 _ E.out,XFe (XFa hS.2.2.1 f) 11 _ G.out,XFe (XFa hS.2.2.2.1 f) 0 _ a5.out,XFe (XFa hS.2.2.2.2.1 f) 0 _ a8.out,XFe (XFa hS.2.2.2.2.2.1 f) 9 _ a7.out,XFe (XFa hS.2.2.2.2.2.1 f) 10 _ D.out,X0f hS.2.2.2.2.2.2.2.2.2.2.2.2.2 f⟩) (fun hSn=>?_)
       clear hK K hS
       have hS:=hSn
       clear hSn
       try simp only[putA]
       replace hT:=hid (tabs_next hT.out f)
       replace rs:=hid (X08 rs.out f)
       replace ri:=hid (X01 ri.out f)
       replace ro:=hid (X01 ro.out f)
       replace x0:=hid (XFa x0.out f)
       replace x1:=hid (XFa x1.out f)
       replace x2:=hid (XFa x2.out f)
       replace rt:=hid (X08 rt.out f)
       replace rj:=hid (X01 rj.out f)
       replace rp:=hid (X01 rp.out f)
       replace xt:=hid (XFa xt.out f)
       replace xj:=hid (XFa xj.out f)
       replace xp:=hid (XFa xp.out f)
       replace xr:=hid (X0f xr.out f)
       replace ru:=hid (X03 ru.out f)
       replace rz:=hid (X03 rz.out f)
       replace rq:=hid (X03 rq.out f)
       replace rd:=hid (X03 rd.out f)
       replace bq:=hid (X05 bq.out f)
       clear f
       refine' tk 5 rfl hS ?_
       try simp only[putA]
       refine' tk 6 rfl hS ?_
       try simp only[putA]
       refine' tk 7 rfl hS ?_
       try simp only[putA]
       refine' tk 8 rfl hS ?_
       try simp only[putA]
       refine' tk 9 rfl hS ?_
       try simp only[putA]
       refine' tk 10 rfl hS ?_
       try simp only[putA]
       refine' tk 11 rfl hS ?_
       try simp only[putA]
       refine' tk 12 rfl hS ?_
       try simp only[putA]
       refine' tk 13 rfl hS ?_
       try simp only[putA]
       refine' tk 14 rfl hS ?_
       try simp only[putA]
       refine' tk 15 rfl hS ?_
       try simp only[putA]
       refine' tk 16 rfl hS ?_
       try simp only[putA]
       refine' tk 17 rfl hS ?_
       try simp only[putA]
       refine' tk 18 rfl hS ?_
       try simp only[putA]
       refine' tk 19 rfl hS ?_
       try simp only[putA]
       refine' tk 20 rfl hS ?_
       try simp only[putA]
       refine' tk 21 rfl hS ?_
       try simp only[putA]
       refine' tk 22 rfl hS ?_
       try simp only[putA]
       refine' tk 23 rfl hS ?_
       try simp only[putA]
       refine' tk 24 rfl hS ?_
       try simp only[putA]
       refine' tk 25 rfl hS ?_
       try simp only[putA]
       refine' tk 26 rfl hS ?_
       try simp only[putA]
       refine' tk 27 rfl hS ?_
       try simp only[putA]
       refine' tk 28 rfl hS ?_
       try simp only[putA]
       refine' tk 29 rfl hS ?_
       try simp only[putA]
       refine' tk 30 rfl hS ?_
       try simp only[putA]
       refine' tk 31 rfl hS ?_
       try simp only[putA]
       refine' tk 32 rfl hS ?_
       try simp only[putA]
       refine' tk 33 rfl hS ?_
       try simp only[putA]
       refine' tk 34 rfl hS ?_
       try simp only[putA]
       refine' tkO 35 rfl (fun W=>XFJ aY bk W) hS ?_
       try simp only[putA]
       refine rdy 36 rfl fun K hK=>?_
       go_simp
       go_at_call 28
       refine(X0t _ _ T8 aS aZ ru.out rq.out).mono ?_
       rintro e bA ⟨rfl,g⟩
       go_wp2_with fail
       refine hK.out _ _ (⟨XFa hS.1 g,XFa hS.2.1 g,XFa hS.2.2.1 g,XFa hS.2.2.2.1 g,XFa hS.2.2.2.2.1 g,XFa hS.2.2.2.2.2.1 g,XFe (XFa hS.2.2.1 g) 9 _ a4.out,XFe (XFa hS.2.2.1 g) 10 _ E.out,XFe (XFa hS.2.2.1 g) 11 _ G.out,XFe (XFa hS.2.2.2.1 g) 0 _ a5.out,XFe (XFa hS.2.2.2.2.1 g) 0 _ a8.out,XFe (XFa hS.2.2.2.2.2.1 g) 9 _ a7.out,XFe (XFa hS.2.2.2.2.2.1 g) 10 _ D.out,X0f hS.2.2.2.2.2.2.2.2.2.2.2.2.2 g⟩) (fun hSn=>?_)
       clear hK K hS
       have hS:=hSn
       clear hSn
       try simp only[putA]
       replace hT:=hid (tabs_next hT.out g)
       replace rs:=hid (X08 rs.out g)
       replace ri:=hid (X01 ri.out g)
       replace ro:=hid (X01 ro.out g)
       replace x0:=hid (XFa x0.out g)
       replace x1:=hid (XFa x1.out g)
       replace x2:=hid (XFa x2.out g)
       replace rt:=hid (X08 rt.out g)
       replace rj:=hid (X01 rj.out g)
       replace rp:=hid (X01 rp.out g)
       replace xt:=hid (XFa xt.out g)
       replace xj:=hid (XFa xj.out g)
       replace xp:=hid (XFa xp.out g)
       replace xr:=hid (X0f xr.out g)
       replace ru:=hid (X03 ru.out g)
       replace rz:=hid (X03 rz.out g)
       replace rq:=hid (X03 rq.out g)
       replace rd:=hid (X03 rd.out g)
       replace bq:=hid (X05 bq.out g)
       clear g
       refine' tk 37 rfl hS ?_
       try simp only[putA]
       refine' tk 38 rfl hS ?_
       try simp only[putA]
       refine' tk 39 rfl hS ?_
       try simp only[putA]
       refine' tk 40 rfl hS ?_
       try simp only[putA]
       refine' tk 41 rfl hS ?_
       try simp only[putA]
       refine' tk 42 rfl hS ?_
       try simp only[putA]
       refine' tk 43 rfl hS ?_
       try simp only[putA]
       refine' tkO 44 rfl (fun W=>ar.out _ _ _ _ _ _ _ _ W rfl rfl) hS ?_
       try simp only[putA]
       refine rdy 45 rfl fun K hK=>?_
       go_simp
       go_at_call 28
       refine(X0t _ _ t.pend bA bI rz.out rd.out).mono ?_
       rintro e w12 ⟨rfl,l⟩
       go_wp2_with fail
       refine hK.out _ _ (⟨XFa hS.1 l,XFa hS.2.1 l,XFa hS.2.2.1 l,XFa hS.2.2.2.1 l,XFa hS.2.2.2.2.1 l,XFa hS.2.2.2.2.2.1 l,XFe (XFa hS.2.2.1 l) 9 _ a4.out,XFe (XFa hS.2.2.1 l) 10 _ E.out,XFe (XFa hS.2.2.1 l) 11 _ G.out,XFe (XFa hS.2.2.2.1 l) 0 _ a5.out,XFe (XFa hS.2.2.2.2.1 l) 0 _ a8.out,XFe (XFa hS.2.2.2.2.2.1 l) 9 _ a7.out,XFe (XFa hS.2.2.2.2.2.1 l) 10 _ D.out,X0f hS.2.2.2.2.2.2.2.2.2.2.2.2.2 l⟩) (fun hSn=>?_)
       clear hK K hS
       have hS:=hSn
       clear hSn
       try simp only[putA]
       replace hT:=hid (tabs_next hT.out l)
       replace rs:=hid (X08 rs.out l)
       replace ri:=hid (X01 ri.out l)
       replace ro:=hid (X01 ro.out l)
       replace x0:=hid (XFa x0.out l)
       replace x1:=hid (XFa x1.out l)
       replace x2:=hid (XFa x2.out l)
       replace rt:=hid (X08 rt.out l)
       replace rj:=hid (X01 rj.out l)
       replace rp:=hid (X01 rp.out l)
       replace xt:=hid (XFa xt.out l)
       replace xj:=hid (XFa xj.out l)
       replace xp:=hid (XFa xp.out l)
       replace xr:=hid (X0f xr.out l)
       replace ru:=hid (X03 ru.out l)
       replace rz:=hid (X03 rz.out l)
       replace rq:=hid (X03 rq.out l)
       replace rd:=hid (X03 rd.out l)
       replace bq:=hid (X05 bq.out l)
       clear l
       refine' tk 46 rfl hS ?_
       try simp only[putA]
       refine' tk 47 rfl hS ?_
       try simp only[putA]
       refine' tk 48 rfl hS ?_
       try simp only[putA]
       refine' tk 49 rfl hS ?_
       try simp only[putA]
       refine' tk 50 rfl hS ?_
       try simp only[putA]
       refine' tk 51 rfl hS ?_
       try simp only[putA]
       refine' tk 52 rfl hS ?_
       try simp only[putA]
       refine' tk 53 rfl hS ?_
       try simp only[putA]
       refine' tk 54 rfl hS ?_
       try simp only[putA]
       refine' tk 55 rfl hS ?_
       try simp only[putA]
       refine' tk 56 rfl hS ?_
       try simp only[putA]
       refine' tk 57 rfl hS ?_
       try simp only[putA]
       refine' tk 58 rfl hS ?_
       try simp only[putA]
       refine' tk 59 rfl hS ?_
       try simp only[putA]
       refine wpAnyH_done (by kernel_rfl) ?_ _
       clear hS
       go_wp2_with fail
       go_ret
       exact⟨rfl,bq.out⟩
end Go.Proofs.YtkofnpkopbnocaaGreatDoor
