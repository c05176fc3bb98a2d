import Derived.Test.YtkofnpkopbnocaaGreatDoorStVk
import Derived.Test.YtkofnpkopbnocaaGreatDoorStBk
set_option maxRecDepth 100000
set_option maxHeartbeats 25600000
namespace Go.Proofs.YtkofnpkopbnocaaGreatDoor
set_option linter.unusedSimpArgs false
set_option linter.unusedVariables false
open Go Go.RowKit Go.Lib
open Mch (MS)
open Stg (Ch St)
theorem stageKeeps_walk(hN:NewC17)(hS:SaneC17)(hP:StepC17)(hC:CanC17)(hK:CostC17)(hD:SaneC16)(v:Value)(s:St)(vi:Value)(i:Ch)(vo:Value)(o:Ch)(w:World)(hT:Tabs w)(hv:RS N0 w v s∧I64 s.m.kind)(hi:RCh N0 w vi i∧i.Wf∧i.L.length≤maxLen)(ho:RCh N0 w vo o∧o.Wf∧o.L.length≤maxLen):
 Calls Tryz.prog 5 #[v,vi,vo] w fun e w'=>e= .returned (.bool true)∧Below w.heap.size w w':=by
 obtain⟨rs,aa⟩:=hv
 obtain⟨ri,aj,b0⟩:=hi
 obtain⟨ro,aR,b3⟩:=ho
 have a9:=hid (fun W h=>X5R hN hP hK W h)
 have a5:=fun W h1 h2 h3=>X8w N0 N0 N0 v s vi i vo o W b0 b3 h1 h2 h3
 have a3: ∃Z0:Array Value,v= .agg Z0∧Z0[0]? =some (.int .i64 s.m.kind):=by
  obtain⟨Z0,rfl,_⟩:=rs_x rs
  exact⟨Z0,rfl,(XFp rs).1⟩
 obtain⟨F,hF⟩: ∃F,(fewS s && fewC i && fewC o)=F:=⟨_,rfl⟩
 rw[hF] at a5
 replace a5:=hid a5
 obtain⟨X,rfl,aJ,aK⟩:=rs_x rs
 obtain⟨Y,rfl,aL,aM,_⟩:=rch_x ri
 obtain⟨Z,rfl,aN,aO,_⟩:=rch_x ro
 obtain⟨W,hW,x0,x1,x2,bq⟩:=three (w:=w) (vx_S aJ aK) (vx_C aL aM) (vx_C aN aO)
 unfold TR17 TR16 at *
 replace rs:=X08 rs bq
 replace ri:=X01 ri bq
 replace ro:=X01 ro bq
 replace hT:=tabs_next hT bq
 clear aJ aK aL aM aN aO
 replace hW:=hid hW
 replace x0:=hid x0
 replace x1:=hid x1
 replace x2:=hid x2
 replace bq:=hid bq
 replace rs:=hid rs
 replace ri:=hid ri
 replace ro:=hid ro
 replace hT:=hid hT
 replace a3:X[0]? =some (.int .i64 s.m.kind):=by
  obtain⟨Z0,e,h⟩:=a3
  cases e
  exact h
 replace a3:=hid a3
 rcases F with _ | _
 ·clear hF aa aj aR hN hS hP hC hK hD
  go_enter Tryz.func5,Tryz.ntmps5
  go_upto_region 1 with(fail)
  rw[hW.out]
  go_wp2_with fail
  refine(a9.out W hT.out).mono ?_
  rintro e w2 ⟨rfl,q2⟩
  replace hT:=hid (tabs_next hT.out q2)
  replace rs:=hid (X08 rs.out q2)
  replace ri:=hid (X01 ri.out q2)
  replace ro:=hid (X01 ro.out q2)
  replace x0:=hid (XFa x0.out q2)
  replace x1:=hid (XFa x1.out q2)
  replace x2:=hid (XFa x2.out q2)
  replace bq:=hid (X05 bq.out q2)
  clear q2
  go_wp2_with (first | refine ldX x0.out ?_ | refine ldX x1.out ?_ | refine ldX x2.out ?_)
  refine(a5.out w2 rs.out ri.out ro.out).mono ?_
  rintro e w3 ⟨rfl,q3⟩
  replace hT:=hid (tabs_next hT.out q3)
  replace rs:=hid (X08 rs.out q3)
  replace ri:=hid (X01 ri.out q3)
  replace ro:=hid (X01 ro.out q3)
  replace x0:=hid (XFa x0.out q3)
  replace x1:=hid (XFa x1.out q3)
  replace x2:=hid (XFa x2.out q3)
  replace bq:=hid (X05 bq.out q3)
  clear q3
  go_wp2_with fail
  go_ret
  exact⟨rfl,bq.out⟩
 ·simp only[Bool.and_eq_true] at hF
  have am:=X3x hF.1.1 aa
  have az:=(X1S hF.1.2).1
  have aA:=(X1S hF.2).1
  have ab:=fun J V VI VO Wz (oj:Old J Wz) (t:Tabs Wz) r1 r2 r3=>hP J V s VI i VO o Wz t oj am az aA aj r1 r2 r3
  have a0:=fun V Wz t r=>hS N0 V s Wz t am r
  have a4:=fun V VI VO Wz t r1 r2 r3=>hC N0 V s VI i VO o Wz t (old0 _) am az aA aj r1 r2 r3
  have a6:=Stg.X6c s i o
  have al:=Stg.kind_step i o aa
  have aq:=fun t=>Stg.Xye t
  obtain⟨⟨t,i2,o2,ok⟩,hq⟩: ∃q,Stg.stepS s i o=q:=⟨_,rfl⟩
  rw[hq] at ab a4 a6 al
  dsimp only at a4 a6 al
  have aE:=(Stg.X3I t).2 a6.1
  have aD:=Stg.small_sane aE al
  have T:=fun V Wz tt r=>hS N0 V t Wz tt aD r
  rw[aE] at T
  have O:=fun V Wz tt r=>hK N0 V t Wz tt aD r
  have P:=fun V Wz r=>hD N0 V i2 Wz (X1n a6.2.1) r
  have R:=fun V Wz r=>hD N0 V o2 Wz (X1n a6.2.2.1) r
  rw[a6.2.1] at P
  rw[a6.2.2.1] at R
  have M:=fun Wz=>hN N0 s.m.kind Wz aa
  have aC:Stg.saneS (Stg.newS s.m.kind)=true:=(Stg.X3I _).2 (Stg.Xal _)
  have aQ:I64 (Stg.newS s.m.kind).m.kind:=by
   unfold Stg.newS Mch.newM
   split
   ·exact aa
   ·decide
  have aB:=Stg.small_sane aC aQ
  have E:=fun V Wz tt r=>hS N0 V (Stg.newS s.m.kind) Wz tt aB r
  have D:=fun V Wz tt r=>hK N0 V (Stg.newS s.m.kind) Wz tt aB r
  rw[aC] at E
  rw[Stg.Xvf] at D
  have aZ:((Stg.costS t:Nat):Int)≤288:=by have:=aq t;omega
  obtain⟨N,aI⟩: ∃N,Stg.costS t=N:=⟨_,rfl⟩
  rw[aI] at O aZ
  obtain⟨KS,aH⟩: ∃KS,Stg.newS s.m.kind=KS:=⟨_,rfl⟩
  rw[aH] at M E D
  obtain⟨B,hB⟩: ∃B,Stg.saneS s=B:=⟨_,rfl⟩
  rw[hB] at a0
  have b7:(ok != ok)=false:=X9j ok
  unfold XeD at ab
  dsimp only at ab
  replace ab:=hid ab
  replace a0:=hid a0
  replace a4:=hid a4
  replace T:=hid T
  replace O:=hid O
  replace P:=hid P
  replace R:=hid R
  replace M:=hid M
  replace E:=hid E
  replace D:=hid D
  clear hF aa aj aR hN hS hP hC hK hD am az aA hq a6 al aE aD aC aQ aB aH aI aq hB
  go_enter Tryz.func5,Tryz.ntmps5
  go_upto_region 1 with(fail)
  rw[hW.out]
  go_wp2_with fail
  refine(a9.out W hT.out).mono ?_
  rintro e w2 ⟨rfl,q2⟩
  replace hT:=hid (tabs_next hT.out q2)
  replace rs:=hid (X08 rs.out q2)
  replace ri:=hid (X01 ri.out q2)
  replace ro:=hid (X01 ro.out q2)
  replace x0:=hid (XFa x0.out q2)
  replace x1:=hid (XFa x1.out q2)
  replace x2:=hid (XFa x2.out q2)
  replace bq:=hid (X05 bq.out q2)
  clear q2
  go_wp2_with (first | refine ldX x0.out ?_ | refine ldX x1.out ?_ | refine ldX x2.out ?_)
  refine(a5.out w2 rs.out ri.out ro.out).mono ?_
  rintro e w3 ⟨rfl,q3⟩
  replace hT:=hid (tabs_next hT.out q3)
  replace rs:=hid (X08 rs.out q3)
  replace ri:=hid (X01 ri.out q3)
  replace ro:=hid (X01 ro.out q3)
  replace x0:=hid (XFa x0.out q3)
  replace x1:=hid (XFa x1.out q3)
  replace x2:=hid (XFa x2.out q3)
  replace bq:=hid (X05 bq.out q3)
  clear q3
  go_upto_region 4 with(fail)
  replace hT:=hid (tabs_next hT.out (Below.refl _ _).drew)
  replace rs:=hid (X08 rs.out (Below.refl _ _).drew)
  replace ri:=hid (X01 ri.out (Below.refl _ _).drew)
  replace ro:=hid (X01 ro.out (Below.refl _ _).drew)
  replace x0:=hid (XFa x0.out (Below.refl _ _).drew)
  replace x1:=hid (XFa x1.out (Below.refl _ _).drew)
  replace x2:=hid (XFa x2.out (Below.refl _ _).drew)
  replace bq:=hid (X05 bq.out (Below.refl _ _).drew)
  have aY:=hid (show w.heap.size≤(w3).drew.heap.size from bq.out.size)
  refine RgA.X3b (J0:=fun _=>False) (X:= [0,1,2,3,4,5,6,7,8,12,13,14]) (Y:= [9,10,11]) (A:= [12,13,14]) (F:=fun fk J v wz=>match fk with | 0=>v= .agg X | 1=>v= .agg X | 2=>v= .agg Y | 3=>v= .agg Y | 4=>v= .agg Z | 5=>v= .agg Z | 6=>FT (t,i2,o2,ok) J v wz | 7=>FT (t,i2,o2,ok) J v wz | 8=>RS J wz v t | 9=>RCh J wz v i2 | 10=>RCh J wz v o2 | 11=>v= .bool ok | 12=>FPx Tryz.prog (w3).drew.heap.size zeroS 48 v wz | 13=>FPx Tryz.prog (w3).drew.heap.size zeroC 49 v wz | 14=>FPx Tryz.prog (w3).drew.heap.size zeroC 49 v wz | _=>True) _ (by kernel_rfl) (by kernel_rfl) (by kernel_rfl) (by decide) (fun c a d v wz h=>by cases d <;> exact h) (fun _ h=>h.elim) ?stable ?fresh ?self ?step ?pure ?fin
  case stable=>
   intro k J v wz bb h hb
   match k,h with
   | 0,h=>exact h
   | 1,h=>exact h
   | 2,h=>exact h
   | 3,h=>exact h
   | 4,h=>exact h
   | 5,h=>exact h
   | 6,h=>exact X2s h hb
   | 7,h=>exact X2s h hb
   | 8,h=>exact X08 h hb
   | 9,h=>exact X01 h hb
   | 10,h=>exact X01 h hb
   | 11,h=>exact h
   | 12,h=>exact XFX h hb
   | 13,h=>exact XFX h hb
   | 14,h=>exact XFX h hb
   | _+15,h=>trivial
  case fresh=>
   intro k J v wz p h hp
   match k,h with
   | 0,h=>exact h
   | 1,h=>exact h
   | 2,h=>exact h
   | 3,h=>exact h
   | 4,h=>exact h
   | 5,h=>exact h
   | 6,h=>exact X2t h hp
   | 7,h=>exact X2t h hp
   | 8,h=>exact X5L h hp
   | 9,h=>exact X2b h hp
   | 10,h=>exact X2b h hp
   | 11,h=>exact h
   | 12,h=>exact h
   | 13,h=>exact h
   | 14,h=>exact h
   | _+15,h=>trivial
  case self=>
   intro k hk J J' v wz h
   simp only[List.mem_cons,List.not_mem_nil,or_false] at hk
   rcases hk with rfl | rfl | rfl <;> exact h
  case step=>
   simp only[List.cons_append,List.nil_append]
   refine RgA.Steps.cons (o:=⟨_,_,_,_,_,_⟩) rfl ?_ (RgA.Steps.cons (o:=⟨_,_,_,_,_,_⟩) rfl ?_ (RgA.Steps.cons (o:=⟨_,_,_,_,_,_⟩) rfl ?_ (RgA.Steps.cons (o:=⟨_,_,_,_,_,_⟩) rfl ?_ (RgA.Steps.cons (o:=⟨_,_,_,_,_,_⟩) rfl ?_ (RgA.Steps.cons (o:=⟨_,_,_,_,_,_⟩) rfl ?_ (RgA.Steps.cons (o:=⟨_,_,_,_,_,_⟩) rfl ?_ (RgA.Steps.cons (o:=⟨_,_,_,_,_,_⟩) rfl ?_ (RgA.Steps.cons (o:=⟨_,_,_,_,_,_⟩) rfl ?_ (RgA.Steps.cons (o:=⟨_,_,_,_,_,_⟩) rfl ?_ (RgA.Steps.cons (o:=⟨_,_,_,_,_,_⟩) rfl ?_ (RgA.Steps.cons (o:=⟨_,_,_,_,_,_⟩) rfl ?_ (RgA.Steps.cons (o:=⟨_,_,_,_,_,_⟩) rfl ?_ (RgA.Steps.cons (o:=⟨_,_,_,_,_,_⟩) rfl ?_ (RgA.Steps.cons (o:=⟨_,_,_,_,_,_⟩) rfl ?_ RgA.Steps.nil))))))))))))))
   ·intro y wz J hJ I n hd K' hK
    rw[RgA.X0q _ [(0,20),(1,21),(2,22),(3,23),(4,24),(5,25),(6,26),(7,19),(8,27),(12,8),(13,9),(14,10),(9,28),(10,29),(11,30)] (by kernel_rfl)] at hK ⊢
    simp only[RgA.mkL,List.foldl_cons,List.foldl_nil,List.setIfInBounds_toArray,List.set_cons_succ,List.set_cons_zero] at hK ⊢
    refine atL (XFa x0.out n) ?_
    have H:=hK.out (.agg X) wz (rfl) (Below.refl _ _) (fun h=>by simp at h)
    simp only[Act.put,List.setIfInBounds_toArray,List.set_cons_succ,List.set_cons_zero] at H
    exact H
   ·intro y wz J hJ I n hd K' hK
    have d0:(y 0)= .agg X:=hd 0 (by kernel_rfl)
    rw[RgA.X0q _ [(0,20),(1,21),(2,22),(3,23),(4,24),(5,25),(6,26),(7,19),(8,27),(12,8),(13,9),(14,10),(9,28),(10,29),(11,30)] (by kernel_rfl)] at hK ⊢
    simp only[RgA.mkL,List.foldl_cons,List.foldl_nil,List.setIfInBounds_toArray,List.set_cons_succ,List.set_cons_zero] at hK ⊢
    rw[d0] at hK ⊢
    go_simp
    refine(X4j (X08 rs.out n)).mono ?_
    rintro e w1 ⟨rfl,q0⟩
    go_wp2_with fail
    have H:=hK.out (.agg X) w1 (rfl) (q0) (fun h=>by simp at h)
    simp only[Act.put,List.setIfInBounds_toArray,List.set_cons_succ,List.set_cons_zero] at H
    exact H
   ·intro y wz J hJ I n hd K' hK
    rw[RgA.X0q _ [(0,20),(1,21),(2,22),(3,23),(4,24),(5,25),(6,26),(7,19),(8,27),(12,8),(13,9),(14,10),(9,28),(10,29),(11,30)] (by kernel_rfl)] at hK ⊢
    simp only[RgA.mkL,List.foldl_cons,List.foldl_nil,List.setIfInBounds_toArray,List.set_cons_succ,List.set_cons_zero] at hK ⊢
    refine atL (XFa x1.out n) ?_
    have H:=hK.out (.agg Y) wz (rfl) (Below.refl _ _) (fun h=>by simp at h)
    simp only[Act.put,List.setIfInBounds_toArray,List.set_cons_succ,List.set_cons_zero] at H
    exact H
   ·intro y wz J hJ I n hd K' hK
    have d2:(y 2)= .agg Y:=hd 2 (by kernel_rfl)
    rw[RgA.X0q _ [(0,20),(1,21),(2,22),(3,23),(4,24),(5,25),(6,26),(7,19),(8,27),(12,8),(13,9),(14,10),(9,28),(10,29),(11,30)] (by kernel_rfl)] at hK ⊢
    simp only[RgA.mkL,List.foldl_cons,List.foldl_nil,List.setIfInBounds_toArray,List.set_cons_succ,List.set_cons_zero] at hK ⊢
    rw[d2] at hK ⊢
    go_simp
    refine(X2r (X01 ri.out n)).mono ?_
    rintro e w1 ⟨rfl,q0⟩
    go_wp2_with fail
    have H:=hK.out (.agg Y) w1 (rfl) (q0) (fun h=>by simp at h)
    simp only[Act.put,List.setIfInBounds_toArray,List.set_cons_succ,List.set_cons_zero] at H
    exact H
   ·intro y wz J hJ I n hd K' hK
    rw[RgA.X0q _ [(0,20),(1,21),(2,22),(3,23),(4,24),(5,25),(6,26),(7,19),(8,27),(12,8),(13,9),(14,10),(9,28),(10,29),(11,30)] (by kernel_rfl)] at hK ⊢
    simp only[RgA.mkL,List.foldl_cons,List.foldl_nil,List.setIfInBounds_toArray,List.set_cons_succ,List.set_cons_zero] at hK ⊢
    refine atL (XFa x2.out n) ?_
    have H:=hK.out (.agg Z) wz (rfl) (Below.refl _ _) (fun h=>by simp at h)
    simp only[Act.put,List.setIfInBounds_toArray,List.set_cons_succ,List.set_cons_zero] at H
    exact H
   ·intro y wz J hJ I n hd K' hK
    have d4:(y 4)= .agg Z:=hd 4 (by kernel_rfl)
    rw[RgA.X0q _ [(0,20),(1,21),(2,22),(3,23),(4,24),(5,25),(6,26),(7,19),(8,27),(12,8),(13,9),(14,10),(9,28),(10,29),(11,30)] (by kernel_rfl)] at hK ⊢
    simp only[RgA.mkL,List.foldl_cons,List.foldl_nil,List.setIfInBounds_toArray,List.set_cons_succ,List.set_cons_zero] at hK ⊢
    rw[d4] at hK ⊢
    go_simp
    refine(X2r (X01 ro.out n)).mono ?_
    rintro e w1 ⟨rfl,q0⟩
    go_wp2_with fail
    have H:=hK.out (.agg Z) w1 (rfl) (q0) (fun h=>by simp at h)
    simp only[Act.put,List.setIfInBounds_toArray,List.set_cons_succ,List.set_cons_zero] at H
    exact H
   ·intro y wz J hJ I n hd K' hK
    have d1:(y 1)= .agg X:=hd 1 (by kernel_rfl)
    have d3:(y 3)= .agg Y:=hd 3 (by kernel_rfl)
    have d5:(y 5)= .agg Z:=hd 5 (by kernel_rfl)
    rw[RgA.X0q _ [(0,20),(1,21),(2,22),(3,23),(4,24),(5,25),(6,26),(7,19),(8,27),(12,8),(13,9),(14,10),(9,28),(10,29),(11,30)] (by kernel_rfl)] at hK ⊢
    simp only[RgA.mkL,List.foldl_cons,List.foldl_nil,List.setIfInBounds_toArray,List.set_cons_succ,List.set_cons_zero] at hK ⊢
    rw[d1,d3,d5] at hK ⊢
    go_simp
    refine(ab.out J _ _ _ wz (fun j h=>(hJ j h).1) (tabs_next hT.out n) (X08 (X3s rs.out (fun j hj h=>(hJ j h).2.elim (fun h=>h) (fun h=>absurd hj (Nat.not_lt.2 h)))) n) (X01 (X0Q ri.out (fun j hj h=>(hJ j h).2.elim (fun h=>h) (fun h=>absurd hj (Nat.not_lt.2 h)))) n) (X01 (X0Q ro.out (fun j hj h=>(hJ j h).2.elim (fun h=>h) (fun h=>absurd hj (Nat.not_lt.2 h)))) n)).mono ?_
    rintro e w1 ⟨vs,vi,vo,rfl,r1,r2,r3,q0⟩
    go_wp2_with fail
    have H:=hK.out (.tuple #[vs,vi,vo, .bool ok]) w1 (⟨vs,vi,vo,rfl,r1,r2,r3⟩) (q0) (fun h=>by simp at h)
    simp only[Act.put,List.setIfInBounds_toArray,List.set_cons_succ,List.set_cons_zero] at H
    exact H
   ·intro y wz J hJ I n hd K' hK
    have d6:FT (t,i2,o2,ok) J (y 6) wz:=hd 6 (by kernel_rfl)
    rw[RgA.X0q _ [(0,20),(1,21),(2,22),(3,23),(4,24),(5,25),(6,26),(7,19),(8,27),(12,8),(13,9),(14,10),(9,28),(10,29),(11,30)] (by kernel_rfl)] at hK ⊢
    simp only[RgA.mkL,List.foldl_cons,List.foldl_nil,List.setIfInBounds_toArray,List.set_cons_succ,List.set_cons_zero] at hK ⊢
    go_simp
    have H:=hK.out (y 6) wz (d6) (Below.refl _ _) (fun h=>by simp at h)
    simp only[Act.put,List.setIfInBounds_toArray,List.set_cons_succ,List.set_cons_zero] at H
    exact H
   ·intro y wz J hJ I n hd K' hK
    have d7:FT (t,i2,o2,ok) J (y 7) wz:=hd 7 (by kernel_rfl)
    rw[RgA.X0q _ [(0,20),(1,21),(2,22),(3,23),(4,24),(5,25),(6,26),(7,19),(8,27),(12,8),(13,9),(14,10),(9,28),(10,29),(11,30)] (by kernel_rfl)] at hK ⊢
    simp only[RgA.mkL,List.foldl_cons,List.foldl_nil,List.setIfInBounds_toArray,List.set_cons_succ,List.set_cons_zero] at hK ⊢
    obtain⟨vs,vi,vo,e7,r1,r2,r3⟩:=X18 d7
    try dsimp only at e7 r1 r2 r3
    rw[e7] at hK ⊢
    clear e7
    go_simp
    have H:=hK.out (vs) wz (r1) (Below.refl _ _) (fun h=>by simp at h)
    simp only[Act.put,List.setIfInBounds_toArray,List.set_cons_succ,List.set_cons_zero] at H
    exact H
   ·intro y wz J hJ I n hd K' hK
    rw[RgA.X0q _ [(0,20),(1,21),(2,22),(3,23),(4,24),(5,25),(6,26),(7,19),(8,27),(12,8),(13,9),(14,10),(9,28),(10,29),(11,30)] (by kernel_rfl)] at hK ⊢
    simp only[RgA.mkL,List.foldl_cons,List.foldl_nil,List.setIfInBounds_toArray,List.set_cons_succ,List.set_cons_zero] at hK ⊢
    go_simp
    have H:=hK.out (.pointer (some ⟨wz.heap.size,0,none⟩)) (wz.alloc (.cells zeroS 48)) (⟨_,rfl,n.size,XFb wz_S wz⟩) (X04 wz _) (fun _=>XFZ wz _)
    simp only[Act.put,List.setIfInBounds_toArray,List.set_cons_succ,List.set_cons_zero] at H
    exact H
   ·intro y wz J hJ I n hd K' hK
    rw[RgA.X0q _ [(0,20),(1,21),(2,22),(3,23),(4,24),(5,25),(6,26),(7,19),(8,27),(12,8),(13,9),(14,10),(9,28),(10,29),(11,30)] (by kernel_rfl)] at hK ⊢
    simp only[RgA.mkL,List.foldl_cons,List.foldl_nil,List.setIfInBounds_toArray,List.set_cons_succ,List.set_cons_zero] at hK ⊢
    go_simp
    have H:=hK.out (.pointer (some ⟨wz.heap.size,0,none⟩)) (wz.alloc (.cells zeroC 49)) (⟨_,rfl,n.size,XFb wz_C wz⟩) (X04 wz _) (fun _=>XFZ wz _)
    simp only[Act.put,List.setIfInBounds_toArray,List.set_cons_succ,List.set_cons_zero] at H
    exact H
   ·intro y wz J hJ I n hd K' hK
    rw[RgA.X0q _ [(0,20),(1,21),(2,22),(3,23),(4,24),(5,25),(6,26),(7,19),(8,27),(12,8),(13,9),(14,10),(9,28),(10,29),(11,30)] (by kernel_rfl)] at hK ⊢
    simp only[RgA.mkL,List.foldl_cons,List.foldl_nil,List.setIfInBounds_toArray,List.set_cons_succ,List.set_cons_zero] at hK ⊢
    go_simp
    have H:=hK.out (.pointer (some ⟨wz.heap.size,0,none⟩)) (wz.alloc (.cells zeroC 49)) (⟨_,rfl,n.size,XFb wz_C wz⟩) (X04 wz _) (fun _=>XFZ wz _)
    simp only[Act.put,List.setIfInBounds_toArray,List.set_cons_succ,List.set_cons_zero] at H
    exact H
   ·intro y wz J hJ I n hd K' hK
    have d7:FT (t,i2,o2,ok) J (y 7) wz:=hd 7 (by kernel_rfl)
    rw[RgA.X0q _ [(0,20),(1,21),(2,22),(3,23),(4,24),(5,25),(6,26),(7,19),(8,27),(12,8),(13,9),(14,10),(9,28),(10,29),(11,30)] (by kernel_rfl)] at hK ⊢
    simp only[RgA.mkL,List.foldl_cons,List.foldl_nil,List.setIfInBounds_toArray,List.set_cons_succ,List.set_cons_zero] at hK ⊢
    obtain⟨vs,vi,vo,e7,r1,r2,r3⟩:=X18 d7
    try dsimp only at e7 r1 r2 r3
    rw[e7] at hK ⊢
    clear e7
    go_simp
    have H:=hK.out (vi) wz (r2) (Below.refl _ _) (fun h=>by simp at h)
    simp only[Act.put,List.setIfInBounds_toArray,List.set_cons_succ,List.set_cons_zero] at H
    exact H
   ·intro y wz J hJ I n hd K' hK
    have d7:FT (t,i2,o2,ok) J (y 7) wz:=hd 7 (by kernel_rfl)
    rw[RgA.X0q _ [(0,20),(1,21),(2,22),(3,23),(4,24),(5,25),(6,26),(7,19),(8,27),(12,8),(13,9),(14,10),(9,28),(10,29),(11,30)] (by kernel_rfl)] at hK ⊢
    simp only[RgA.mkL,List.foldl_cons,List.foldl_nil,List.setIfInBounds_toArray,List.set_cons_succ,List.set_cons_zero] at hK ⊢
    obtain⟨vs,vi,vo,e7,r1,r2,r3⟩:=X18 d7
    try dsimp only at e7 r1 r2 r3
    rw[e7] at hK ⊢
    clear e7
    go_simp
    have H:=hK.out (vo) wz (r3) (Below.refl _ _) (fun h=>by simp at h)
    simp only[Act.put,List.setIfInBounds_toArray,List.set_cons_succ,List.set_cons_zero] at H
    exact H
   ·intro y wz J hJ I n hd K' hK
    have d7:FT (t,i2,o2,ok) J (y 7) wz:=hd 7 (by kernel_rfl)
    rw[RgA.X0q _ [(0,20),(1,21),(2,22),(3,23),(4,24),(5,25),(6,26),(7,19),(8,27),(12,8),(13,9),(14,10),(9,28),(10,29),(11,30)] (by kernel_rfl)] at hK ⊢
    simp only[RgA.mkL,List.foldl_cons,List.foldl_nil,List.setIfInBounds_toArray,List.set_cons_succ,List.set_cons_zero] at hK ⊢
    obtain⟨vs,vi,vo,e7,r1,r2,r3⟩:=X18 d7
    try dsimp only at e7 r1 r2 r3
    rw[e7] at hK ⊢
    clear e7
    go_simp
    have H:=hK.out (.bool ok) wz (rfl) (Below.refl _ _) (fun h=>by simp at h)
    simp only[Act.put,List.setIfInBounds_toArray,List.set_cons_succ,List.set_cons_zero] at H
    exact H
  case pure=>
   refine RgA.Pures.cons rfl ?_ (RgA.Pures.cons rfl ?_ (RgA.Pures.cons rfl ?_ RgA.Pures.nil))
   ·intro y wz J hd
    have d7:FT (t,i2,o2,ok) J (y 7) wz:=hd 7 (by kernel_rfl)
    obtain⟨vs,vi,vo,e7,r1,r2,r3⟩:=X18 d7
    refine⟨vi,r2,?_⟩
    rw[RgA.X0q _ [(0,20),(1,21),(2,22),(3,23),(4,24),(5,25),(6,26),(7,19),(8,27),(12,8),(13,9),(14,10),(9,28),(10,29),(11,30)] (by kernel_rfl)]
    simp only[RgA.mkL,List.foldl_cons,List.foldl_nil,List.setIfInBounds_toArray,List.set_cons_succ,List.set_cons_zero]
    rw[e7]
    refine⟨by kernel_rfl,fun w'=>?_⟩
    go_simp
   ·intro y wz J hd
    have d7:FT (t,i2,o2,ok) J (y 7) wz:=hd 7 (by kernel_rfl)
    obtain⟨vs,vi,vo,e7,r1,r2,r3⟩:=X18 d7
    refine⟨vo,r3,?_⟩
    rw[RgA.X0q _ [(0,20),(1,21),(2,22),(3,23),(4,24),(5,25),(6,26),(7,19),(8,27),(12,8),(13,9),(14,10),(9,28),(10,29),(11,30)] (by kernel_rfl)]
    simp only[RgA.mkL,List.foldl_cons,List.foldl_nil,List.setIfInBounds_toArray,List.set_cons_succ,List.set_cons_zero]
    rw[e7]
    refine⟨by kernel_rfl,fun w'=>?_⟩
    go_simp
   ·intro y wz J hd
    have d7:FT (t,i2,o2,ok) J (y 7) wz:=hd 7 (by kernel_rfl)
    obtain⟨vs,vi,vo,e7,r1,r2,r3⟩:=X18 d7
    refine⟨.bool ok,rfl,?_⟩
    rw[RgA.X0q _ [(0,20),(1,21),(2,22),(3,23),(4,24),(5,25),(6,26),(7,19),(8,27),(12,8),(13,9),(14,10),(9,28),(10,29),(11,30)] (by kernel_rfl)]
    simp only[RgA.mkL,List.foldl_cons,List.foldl_nil,List.setIfInBounds_toArray,List.set_cons_succ,List.set_cons_zero]
    rw[e7]
    refine⟨by kernel_rfl,fun w'=>?_⟩
    go_simp
  intro y ac aP J aW ah aX hF ak
  have f8:RS J ac (y 8) t:=hF 8 (by decide)
  have f9:RCh J ac (y 9) i2:=hF 9 (by decide)
  have U:RCh J ac (y 10) o2:=hF 10 (by decide)
  have aw:y 11= .bool ok:=hF 11 (by decide)
  obtain⟨p9,ad,aS,x9⟩:FPx Tryz.prog (w3).drew.heap.size zeroS 48 (y 12) ac:=hF 12 (by decide)
  obtain⟨aF,ae,ar,a7⟩:FPx Tryz.prog (w3).drew.heap.size zeroC 49 (y 13) ac:=hF 13 (by decide)
  obtain⟨aG,af,au,a8⟩:FPx Tryz.prog (w3).drew.heap.size zeroC 49 (y 14) ac:=hF 14 (by decide)
  have n1:p9≠aF:=fun h=>ak 12 (by decide) 13 (by decide) (by decide) (by rw[ad,ae,h])
  have n2:p9≠aG:=fun h=>ak 12 (by decide) 14 (by decide) (by decide) (by rw[ad,af,h])
  have n3:aF≠aG:=fun h=>ak 13 (by decide) 14 (by decide) (by decide) (by rw[ae,af,h])
  have j9:=ah 12 (by decide) p9 ad
  have aT:=ah 13 (by decide) aF ae
  have aU:=ah 14 (by decide) aG af
  try dsimp only at f8 f9 U aw
  obtain⟨XT,e8,a1,a2⟩:=rs_x f8
  obtain⟨YT,e9,b1,b2,_⟩:=rch_x f9
  obtain⟨ZT,av,g1,g2,_⟩:=rch_x U
  have v9:=wx_S a1 a2
  have an:=wx_C b1 b2
  have ao:=wx_C g1 g2
  unfold TO17 at v9
  unfold TO16 at an ao
  rw[e8] at f8
  rw[e9] at f9
  rw[av] at U
  rw[RgA.X0q _ [(0,20),(1,21),(2,22),(3,23),(4,24),(5,25),(6,26),(7,19),(8,27),(12,8),(13,9),(14,10),(9,28),(10,29),(11,30)] (by kernel_rfl)]
  simp only[RgA.mkL,List.foldl_cons,List.foldl_nil,List.setIfInBounds_toArray,List.set_cons_succ,List.set_cons_zero]
  rw[ad,ae,af,e8,e9,av,aw]
  clear e8 e9 av aw ad ae af ak aW ah hF a1 a2 b1 b2 g1 g2
  refine' tkS 15 rfl x9 v9 (fun b9 p=>?_)
  have ax:=p.below _ _ aS aP
  have u:=XFf (J:=J) p j9
  refine⟨ax,?_⟩
  try simp only[putA]
  replace f8:=X3f f8 u
  replace f9:=X0L f9 u
  replace U:=X0L U u
  replace x9:=XFg p v9
  replace a7:=XFh a7 p n1.symm
  replace a8:=XFh a8 p n2.symm
  clear u p
  refine' tkS 16 rfl a7 an (fun ba p=>?_)
  have ay:=p.below _ _ ar ax
  have u:=XFf (J:=J) p aT
  refine⟨ay,?_⟩
  try simp only[putA]
  replace f8:=X3f f8 u
  replace f9:=X0L f9 u
  replace U:=X0L U u
  replace a7:=XFg p an
  replace x9:=XFh x9 p n1
  replace a8:=XFh a8 p n3.symm
  clear u p
  refine' tkS 17 rfl a8 ao (fun wd p=>?_)
  have ai:=p.below _ _ au ay
  have u:=XFf (J:=J) p aU
  refine⟨ai,?_⟩
  try simp only[putA]
  replace f8:=X3f f8 u
  replace f9:=X0L f9 u
  replace U:=X0L U u
  replace a8:=XFg p ao
  replace x9:=XFh x9 p n2
  replace a7:=XFh a7 p n3
  clear u p
  refine' tk 18 rfl ai ?_
  try simp only[putA]
  refine wpAnyH_done (by kernel_rfl) ?_ _
  have rt:=hid (X3s (K:=N0) f8 (fun _ _ h=>h.elim))
  have rj:=hid (X0Q (K:=N0) f9 (fun _ _ h=>h.elim))
  have rp:=hid (X0Q (K:=N0) U (fun _ _ h=>h.elim))
  have xt:=hid x9
  have xj:=hid a7
  have xp:=hid a8
  have qz:=ai
  clear f8 f9 U x9 a7 a8 aP ax ay ai aX n1 n2 n3 j9 aT aU aS ar au aY v9 an ao
  replace hT:=hid (tabs_next hT.out qz)
  replace rs:=hid (X08 rs.out qz)
  replace ri:=hid (X01 ri.out qz)
  replace ro:=hid (X01 ro.out qz)
  replace x0:=hid (XFa x0.out qz)
  replace x1:=hid (XFa x1.out qz)
  replace x2:=hid (XFa x2.out qz)
  replace bq:=hid (X05 bq.out qz)
  clear qz
  go_upto_region 5 with(fail)
  rcases ok with _ | _
  ·skip
   refine wp_region_held_drew (S:=S3 Tryz.prog w.heap.size (w.heap.size+1) (w.heap.size+1+1) X Y Z 34 37) (by kernel_rfl) ⟨XFa x0.out (Below.refl _ _).drew,XFa x1.out (Below.refl _ _).drew,XFa x2.out (Below.refl _ _).drew⟩ (fun hS=>?_)
   replace hT:=hid (tabs_next hT.out (Below.refl _ _).drew)
   replace rs:=hid (X08 rs.out (Below.refl _ _).drew)
   replace ri:=hid (X01 ri.out (Below.refl _ _).drew)
   replace ro:=hid (X01 ro.out (Below.refl _ _).drew)
   replace x0:=hid (XFa x0.out (Below.refl _ _).drew)
   replace x1:=hid (XFa x1.out (Below.refl _ _).drew)
   replace x2:=hid (XFa x2.out (Below.refl _ _).drew)
   replace rt:=hid (X08 rt.out (Below.refl _ _).drew)
   replace rj:=hid (X01 rj.out (Below.refl _ _).drew)
   replace rp:=hid (X01 rp.out (Below.refl _ _).drew)
   replace xt:=hid (XFa xt.out (Below.refl _ _).drew)
   replace xj:=hid (XFa xj.out (Below.refl _ _).drew)
   replace xp:=hid (XFa xp.out (Below.refl _ _).drew)
   replace bq:=hid (X05 bq.out (Below.refl _ _).drew)
   refine' tk 0 rfl hS ?_
   try simp only[putA]
   refine' tk 1 rfl hS ?_
   try simp only[putA]
   refine' tkN 2 rfl hS ?_
   try simp only[putA]
   refine' tkN 3 rfl hS ?_
   try simp only[putA]
   refine' tkN 4 rfl hS ?_
   try simp only[putA]
   refine' tk 5 rfl hS ?_
   try simp only[putA]
   refine' tk 6 rfl hS ?_
   try simp only[putA]
   refine' tkN 7 rfl hS ?_
   try simp only[putA]
   refine' tkN 8 rfl hS ?_
   try simp only[putA]
   refine' tkN 9 rfl hS ?_
   try simp only[putA]
   refine' tkN 10 rfl hS ?_
   try simp only[putA]
   refine' tkN 11 rfl hS ?_
   try simp only[putA]
   refine' tkN 12 rfl hS ?_
   try simp only[putA]
   refine' tkN 13 rfl hS ?_
   try simp only[putA]
   refine' tkN 14 rfl hS ?_
   try simp only[putA]
   refine' tkN 15 rfl hS ?_
   try simp only[putA]
   refine' tk 16 rfl hS ?_
   try simp only[putA]
   refine wpAnyH_done (by kernel_rfl) ?_ _
   clear hS
   go_wp2_with (first | refine ldX xt.out ?_ | refine ldX xj.out ?_ | refine ldX xp.out ?_)
   refine(T.out _ (wd).drew hT.out rt.out).mono ?_
   rintro e w4 ⟨rfl,q4⟩
   replace hT:=hid (tabs_next hT.out q4)
   replace rs:=hid (X08 rs.out q4)
   replace ri:=hid (X01 ri.out q4)
   replace ro:=hid (X01 ro.out q4)
   replace x0:=hid (XFa x0.out q4)
   replace x1:=hid (XFa x1.out q4)
   replace x2:=hid (XFa x2.out q4)
   replace rt:=hid (X08 rt.out q4)
   replace rj:=hid (X01 rj.out q4)
   replace rp:=hid (X01 rp.out q4)
   replace xt:=hid (XFa xt.out q4)
   replace xj:=hid (XFa xj.out q4)
   replace xp:=hid (XFa xp.out q4)
   replace bq:=hid (X05 bq.out q4)
   clear q4
   go_wp2_with (first | refine ldX xt.out ?_ | refine ldX xj.out ?_ | refine ldX xp.out ?_)
   refine(O.out _ w4 hT.out rt.out).mono ?_
   rintro e w5 ⟨rfl,q5⟩
   replace hT:=hid (tabs_next hT.out q5)
   replace rs:=hid (X08 rs.out q5)
   replace ri:=hid (X01 ri.out q5)
   replace ro:=hid (X01 ro.out q5)
   replace x0:=hid (XFa x0.out q5)
   replace x1:=hid (XFa x1.out q5)
   replace x2:=hid (XFa x2.out q5)
   replace rt:=hid (X08 rt.out q5)
   replace rj:=hid (X01 rj.out q5)
   replace rp:=hid (X01 rp.out q5)
   replace xt:=hid (XFa xt.out q5)
   replace xj:=hid (XFa xj.out q5)
   replace xp:=hid (XFa xp.out q5)
   replace bq:=hid (X05 bq.out q5)
   clear q5
   go_wp2_with (first | refine ldX xt.out ?_ | refine ldX xj.out ?_ | refine ldX xp.out ?_)
   refine(P.out _ w5 rj.out).mono ?_
   rintro e w6 ⟨rfl,q6⟩
   replace hT:=hid (tabs_next hT.out q6)
   replace rs:=hid (X08 rs.out q6)
   replace ri:=hid (X01 ri.out q6)
   replace ro:=hid (X01 ro.out q6)
   replace x0:=hid (XFa x0.out q6)
   replace x1:=hid (XFa x1.out q6)
   replace x2:=hid (XFa x2.out q6)
   replace rt:=hid (X08 rt.out q6)
   replace rj:=hid (X01 rj.out q6)
   replace rp:=hid (X01 rp.out q6)
   replace xt:=hid (XFa xt.out q6)
   replace xj:=hid (XFa xj.out q6)
   replace xp:=hid (XFa xp.out q6)
   replace bq:=hid (X05 bq.out q6)
   clear q6
   go_wp2_with (first | refine ldX xt.out ?_ | refine ldX xj.out ?_ | refine ldX xp.out ?_)
   refine(R.out _ w6 rp.out).mono ?_
   rintro e w7 ⟨rfl,q7⟩
   replace hT:=hid (tabs_next hT.out q7)
   replace rs:=hid (X08 rs.out q7)
   replace ri:=hid (X01 ri.out q7)
   replace ro:=hid (X01 ro.out q7)
   replace x0:=hid (XFa x0.out q7)
   replace x1:=hid (XFa x1.out q7)
   replace x2:=hid (XFa x2.out q7)
   replace rt:=hid (X08 rt.out q7)
   replace rj:=hid (X01 rj.out q7)
   replace rp:=hid (X01 rp.out q7)
   replace xt:=hid (XFa xt.out q7)
   replace xj:=hid (XFa xj.out q7)
   replace xp:=hid (XFa xp.out q7)
   replace bq:=hid (X05 bq.out q7)
   clear q7
   have c0:=XFe x0.out 0 _ a3.out
   go_wp2_with fail
   refine(M.out w7).mono ?_
   rintro e w8 ⟨vk,rfl,rk,q8⟩
   replace hT:=hid (tabs_next hT.out q8)
   replace rs:=hid (X08 rs.out q8)
   replace ri:=hid (X01 ri.out q8)
   replace ro:=hid (X01 ro.out q8)
   replace x0:=hid (XFa x0.out q8)
   replace x1:=hid (XFa x1.out q8)
   replace x2:=hid (XFa x2.out q8)
   replace rt:=hid (X08 rt.out q8)
   replace rj:=hid (X01 rj.out q8)
   replace rp:=hid (X01 rp.out q8)
   replace xt:=hid (XFa xt.out q8)
   replace xj:=hid (XFa xj.out q8)
   replace xp:=hid (XFa xp.out q8)
   replace bq:=hid (X05 bq.out q8)
   replace rk:=hid rk
   clear c0
   clear q8
   go_wp2_with fail
   refine(E.out _ w8 hT.out rk.out).mono ?_
   rintro e w9 ⟨rfl,q9⟩
   replace hT:=hid (tabs_next hT.out q9)
   replace rs:=hid (X08 rs.out q9)
   replace ri:=hid (X01 ri.out q9)
   replace ro:=hid (X01 ro.out q9)
   replace x0:=hid (XFa x0.out q9)
   replace x1:=hid (XFa x1.out q9)
   replace x2:=hid (XFa x2.out q9)
   replace rt:=hid (X08 rt.out q9)
   replace rj:=hid (X01 rj.out q9)
   replace rp:=hid (X01 rp.out q9)
   replace xt:=hid (XFa xt.out q9)
   replace xj:=hid (XFa xj.out q9)
   replace xp:=hid (XFa xp.out q9)
   replace rk:=hid (X08 rk.out q9)
   replace bq:=hid (X05 bq.out q9)
   clear q9
   have c0:=XFe x0.out 0 _ a3.out
   go_wp2_with fail
   refine(M.out w9).mono ?_
   rintro e ag ⟨vl,rfl,rl,f⟩
   replace hT:=hid (tabs_next hT.out f)
   replace rs:=hid (X08 rs.out f)
   replace ri:=hid (X01 ri.out f)
   replace ro:=hid (X01 ro.out f)
   replace x0:=hid (XFa x0.out f)
   replace x1:=hid (XFa x1.out f)
   replace x2:=hid (XFa x2.out f)
   replace rt:=hid (X08 rt.out f)
   replace rj:=hid (X01 rj.out f)
   replace rp:=hid (X01 rp.out f)
   replace xt:=hid (XFa xt.out f)
   replace xj:=hid (XFa xj.out f)
   replace xp:=hid (XFa xp.out f)
   replace rk:=hid (X08 rk.out f)
   replace bq:=hid (X05 bq.out f)
   replace rl:=hid rl
   clear c0
   clear f
   go_wp2_with fail
   refine(D.out _ ag hT.out rl.out).mono ?_
   rintro e ap ⟨rfl,b⟩
   replace hT:=hid (tabs_next hT.out b)
   replace rs:=hid (X08 rs.out b)
   replace ri:=hid (X01 ri.out b)
   replace ro:=hid (X01 ro.out b)
   replace x0:=hid (XFa x0.out b)
   replace x1:=hid (XFa x1.out b)
   replace x2:=hid (XFa x2.out b)
   replace rt:=hid (X08 rt.out b)
   replace rj:=hid (X01 rj.out b)
   replace rp:=hid (X01 rp.out b)
   replace xt:=hid (XFa xt.out b)
   replace xj:=hid (XFa xj.out b)
   replace xp:=hid (XFa xp.out b)
   replace rk:=hid (X08 rk.out b)
   replace rl:=hid (X08 rl.out b)
   replace bq:=hid (X05 bq.out b)
   clear b
   go_wp2_with fail
   go_ret
   exact⟨rfl,bq.out⟩
  ·rcases B with _ | _
   ·skip
    refine wp_region_held_drew (S:=S3 Tryz.prog w.heap.size (w.heap.size+1) (w.heap.size+1+1) X Y Z 34 37) (by kernel_rfl) ⟨XFa x0.out (Below.refl _ _).drew,XFa x1.out (Below.refl _ _).drew,XFa x2.out (Below.refl _ _).drew⟩ (fun hS=>?_)
    replace hT:=hid (tabs_next hT.out (Below.refl _ _).drew)
    replace rs:=hid (X08 rs.out (Below.refl _ _).drew)
    replace ri:=hid (X01 ri.out (Below.refl _ _).drew)
    replace ro:=hid (X01 ro.out (Below.refl _ _).drew)
    replace x0:=hid (XFa x0.out (Below.refl _ _).drew)
    replace x1:=hid (XFa x1.out (Below.refl _ _).drew)
    replace x2:=hid (XFa x2.out (Below.refl _ _).drew)
    replace rt:=hid (X08 rt.out (Below.refl _ _).drew)
    replace rj:=hid (X01 rj.out (Below.refl _ _).drew)
    replace rp:=hid (X01 rp.out (Below.refl _ _).drew)
    replace xt:=hid (XFa xt.out (Below.refl _ _).drew)
    replace xj:=hid (XFa xj.out (Below.refl _ _).drew)
    replace xp:=hid (XFa xp.out (Below.refl _ _).drew)
    replace bq:=hid (X05 bq.out (Below.refl _ _).drew)
    refine' tk 0 rfl hS ?_
    try simp only[putA]
    refine' tk 1 rfl hS ?_
    try simp only[putA]
    refine' tkL 2 rfl (fun _ h=>h.1) hS ?_
    try simp only[putA]
    refine rdy 3 rfl fun K hK=>?_
    go_simp
    go_at_call 12
    refine(X4j rs.out).mono ?_
    rintro e w4 ⟨rfl,q4⟩
    go_wp2_with fail
    refine hK.out _ _ (XFF hS q4) (fun hSn=>?_)
    clear hK K hS
    have hS:=hSn
    clear hSn
    try simp only[putA]
    replace hT:=hid (tabs_next hT.out q4)
    replace rs:=hid (X08 rs.out q4)
    replace ri:=hid (X01 ri.out q4)
    replace ro:=hid (X01 ro.out q4)
    replace x0:=hid (XFa x0.out q4)
    replace x1:=hid (XFa x1.out q4)
    replace x2:=hid (XFa x2.out q4)
    replace rt:=hid (X08 rt.out q4)
    replace rj:=hid (X01 rj.out q4)
    replace rp:=hid (X01 rp.out q4)
    replace xt:=hid (XFa xt.out q4)
    replace xj:=hid (XFa xj.out q4)
    replace xp:=hid (XFa xp.out q4)
    replace bq:=hid (X05 bq.out q4)
    clear q4
    refine rdy 4 rfl fun K hK=>?_
    go_simp
    go_at_call 17
    refine(a0.out _ w4 hT.out rs.out).mono ?_
    rintro e w5 ⟨rfl,q5⟩
    go_wp2_with fail
    refine hK.out _ _ (XFF hS q5) (fun hSn=>?_)
    clear hK K hS
    have hS:=hSn
    clear hSn
    try simp only[putA]
    replace hT:=hid (tabs_next hT.out q5)
    replace rs:=hid (X08 rs.out q5)
    replace ri:=hid (X01 ri.out q5)
    replace ro:=hid (X01 ro.out q5)
    replace x0:=hid (XFa x0.out q5)
    replace x1:=hid (XFa x1.out q5)
    replace x2:=hid (XFa x2.out q5)
    replace rt:=hid (X08 rt.out q5)
    replace rj:=hid (X01 rj.out q5)
    replace rp:=hid (X01 rp.out q5)
    replace xt:=hid (XFa xt.out q5)
    replace xj:=hid (XFa xj.out q5)
    replace xp:=hid (XFa xp.out q5)
    replace bq:=hid (X05 bq.out q5)
    clear q5
    refine' tk 5 rfl hS ?_
    try simp only[putA]
    refine' tk 6 rfl hS ?_
    try simp only[putA]
    refine' tkN 7 rfl hS ?_
    try simp only[putA]
    refine' tkN 8 rfl hS ?_
    try simp only[putA]
    refine' tkN 9 rfl hS ?_
    try simp only[putA]
    refine' tkN 10 rfl hS ?_
    try simp only[putA]
    refine' tkN 11 rfl hS ?_
    try simp only[putA]
    refine' tkN 12 rfl hS ?_
    try simp only[putA]
    refine' tkN 13 rfl hS ?_
    try simp only[putA]
    refine' tkN 14 rfl hS ?_
    try simp only[putA]
    refine' tkN 15 rfl hS ?_
    try simp only[putA]
    refine' tk 16 rfl hS ?_
    try simp only[putA]
    refine wpAnyH_done (by kernel_rfl) ?_ _
    clear hS
    go_wp2_with (first | refine ldX xt.out ?_ | refine ldX xj.out ?_ | refine ldX xp.out ?_)
    refine(T.out _ w5 hT.out rt.out).mono ?_
    rintro e w6 ⟨rfl,q6⟩
    replace hT:=hid (tabs_next hT.out q6)
    replace rs:=hid (X08 rs.out q6)
    replace ri:=hid (X01 ri.out q6)
    replace ro:=hid (X01 ro.out q6)
    replace x0:=hid (XFa x0.out q6)
    replace x1:=hid (XFa x1.out q6)
    replace x2:=hid (XFa x2.out q6)
    replace rt:=hid (X08 rt.out q6)
    replace rj:=hid (X01 rj.out q6)
    replace rp:=hid (X01 rp.out q6)
    replace xt:=hid (XFa xt.out q6)
    replace xj:=hid (XFa xj.out q6)
    replace xp:=hid (XFa xp.out q6)
    replace bq:=hid (X05 bq.out q6)
    clear q6
    go_wp2_with (first | refine ldX xt.out ?_ | refine ldX xj.out ?_ | refine ldX xp.out ?_)
    refine(O.out _ w6 hT.out rt.out).mono ?_
    rintro e w7 ⟨rfl,q7⟩
    replace hT:=hid (tabs_next hT.out q7)
    replace rs:=hid (X08 rs.out q7)
    replace ri:=hid (X01 ri.out q7)
    replace ro:=hid (X01 ro.out q7)
    replace x0:=hid (XFa x0.out q7)
    replace x1:=hid (XFa x1.out q7)
    replace x2:=hid (XFa x2.out q7)
    replace rt:=hid (X08 rt.out q7)
    replace rj:=hid (X01 rj.out q7)
    replace rp:=hid (X01 rp.out q7)
    replace xt:=hid (XFa xt.out q7)
    replace xj:=hid (XFa xj.out q7)
    replace xp:=hid (XFa xp.out q7)
    replace bq:=hid (X05 bq.out q7)
    clear q7
    go_wp2_with (first | refine ldX xt.out ?_ | refine ldX xj.out ?_ | refine ldX xp.out ?_)
    refine(P.out _ w7 rj.out).mono ?_
    rintro e w8 ⟨rfl,q8⟩
    replace hT:=hid (tabs_next hT.out q8)
    replace rs:=hid (X08 rs.out q8)
    replace ri:=hid (X01 ri.out q8)
    replace ro:=hid (X01 ro.out q8)
    replace x0:=hid (XFa x0.out q8)
    replace x1:=hid (XFa x1.out q8)
    replace x2:=hid (XFa x2.out q8)
    replace rt:=hid (X08 rt.out q8)
    replace rj:=hid (X01 rj.out q8)
    replace rp:=hid (X01 rp.out q8)
    replace xt:=hid (XFa xt.out q8)
    replace xj:=hid (XFa xj.out q8)
    replace xp:=hid (XFa xp.out q8)
    replace bq:=hid (X05 bq.out q8)
    clear q8
    go_wp2_with (first | refine ldX xt.out ?_ | refine ldX xj.out ?_ | refine ldX xp.out ?_)
    refine(R.out _ w8 rp.out).mono ?_
    rintro e w9 ⟨rfl,q9⟩
    replace hT:=hid (tabs_next hT.out q9)
    replace rs:=hid (X08 rs.out q9)
    replace ri:=hid (X01 ri.out q9)
    replace ro:=hid (X01 ro.out q9)
    replace x0:=hid (XFa x0.out q9)
    replace x1:=hid (XFa x1.out q9)
    replace x2:=hid (XFa x2.out q9)
    replace rt:=hid (X08 rt.out q9)
    replace rj:=hid (X01 rj.out q9)
    replace rp:=hid (X01 rp.out q9)
    replace xt:=hid (XFa xt.out q9)
    replace xj:=hid (XFa xj.out q9)
    replace xp:=hid (XFa xp.out q9)
    replace bq:=hid (X05 bq.out q9)
    clear q9
    have c0:=XFe x0.out 0 _ a3.out
    go_wp2_with fail
    refine(M.out w9).mono ?_
    rintro e ag ⟨vk,rfl,rk,f⟩
    replace hT:=hid (tabs_next hT.out f)
    replace rs:=hid (X08 rs.out f)
    replace ri:=hid (X01 ri.out f)
    replace ro:=hid (X01 ro.out f)
    replace x0:=hid (XFa x0.out f)
    replace x1:=hid (XFa x1.out f)
    replace x2:=hid (XFa x2.out f)
    replace rt:=hid (X08 rt.out f)
    replace rj:=hid (X01 rj.out f)
    replace rp:=hid (X01 rp.out f)
    replace xt:=hid (XFa xt.out f)
    replace xj:=hid (XFa xj.out f)
    replace xp:=hid (XFa xp.out f)
    replace bq:=hid (X05 bq.out f)
    replace rk:=hid rk
    clear c0
    clear f
    go_wp2_with fail
    refine(E.out _ ag hT.out rk.out).mono ?_
    rintro e ap ⟨rfl,b⟩
    replace hT:=hid (tabs_next hT.out b)
    replace rs:=hid (X08 rs.out b)
    replace ri:=hid (X01 ri.out b)
    replace ro:=hid (X01 ro.out b)
    replace x0:=hid (XFa x0.out b)
    replace x1:=hid (XFa x1.out b)
    replace x2:=hid (XFa x2.out b)
    replace rt:=hid (X08 rt.out b)
    replace rj:=hid (X01 rj.out b)
    replace rp:=hid (X01 rp.out b)
    replace xt:=hid (XFa xt.out b)
    replace xj:=hid (XFa xj.out b)
    replace xp:=hid (XFa xp.out b)
    replace rk:=hid (X08 rk.out b)
    replace bq:=hid (X05 bq.out b)
    clear b
    have c0:=XFe x0.out 0 _ a3.out
    go_wp2_with fail
    refine(M.out ap).mono ?_
    rintro e w12 ⟨vl,rfl,rl,l⟩
    replace hT:=hid (tabs_next hT.out l)
    replace rs:=hid (X08 rs.out l)
    replace ri:=hid (X01 ri.out l)
    replace ro:=hid (X01 ro.out l)
    replace x0:=hid (XFa x0.out l)
    replace x1:=hid (XFa x1.out l)
    replace x2:=hid (XFa x2.out l)
    replace rt:=hid (X08 rt.out l)
    replace rj:=hid (X01 rj.out l)
    replace rp:=hid (X01 rp.out l)
    replace xt:=hid (XFa xt.out l)
    replace xj:=hid (XFa xj.out l)
    replace xp:=hid (XFa xp.out l)
    replace rk:=hid (X08 rk.out l)
    replace bq:=hid (X05 bq.out l)
    replace rl:=hid rl
    clear c0
    clear l
    go_wp2_with fail
    refine(D.out _ w12 hT.out rl.out).mono ?_
    rintro e aV ⟨rfl,g⟩
    replace hT:=hid (tabs_next hT.out g)
    replace rs:=hid (X08 rs.out g)
    replace ri:=hid (X01 ri.out g)
    replace ro:=hid (X01 ro.out g)
    replace x0:=hid (XFa x0.out g)
    replace x1:=hid (XFa x1.out g)
    replace x2:=hid (XFa x2.out g)
    replace rt:=hid (X08 rt.out g)
    replace rj:=hid (X01 rj.out g)
    replace rp:=hid (X01 rp.out g)
    replace xt:=hid (XFa xt.out g)
    replace xj:=hid (XFa xj.out g)
    replace xp:=hid (XFa xp.out g)
    replace rk:=hid (X08 rk.out g)
    replace rl:=hid (X08 rl.out g)
    replace bq:=hid (X05 bq.out g)
    clear g
    go_wp2_with fail
    go_ret
    exact⟨rfl,bq.out⟩
   ·skip
    refine wp_region_held_drew (S:=S3 Tryz.prog w.heap.size (w.heap.size+1) (w.heap.size+1+1) X Y Z 34 37) (by kernel_rfl) ⟨XFa x0.out (Below.refl _ _).drew,XFa x1.out (Below.refl _ _).drew,XFa x2.out (Below.refl _ _).drew⟩ (fun hS=>?_)
    replace hT:=hid (tabs_next hT.out (Below.refl _ _).drew)
    replace rs:=hid (X08 rs.out (Below.refl _ _).drew)
    replace ri:=hid (X01 ri.out (Below.refl _ _).drew)
    replace ro:=hid (X01 ro.out (Below.refl _ _).drew)
    replace x0:=hid (XFa x0.out (Below.refl _ _).drew)
    replace x1:=hid (XFa x1.out (Below.refl _ _).drew)
    replace x2:=hid (XFa x2.out (Below.refl _ _).drew)
    replace rt:=hid (X08 rt.out (Below.refl _ _).drew)
    replace rj:=hid (X01 rj.out (Below.refl _ _).drew)
    replace rp:=hid (X01 rp.out (Below.refl _ _).drew)
    replace xt:=hid (XFa xt.out (Below.refl _ _).drew)
    replace xj:=hid (XFa xj.out (Below.refl _ _).drew)
    replace xp:=hid (XFa xp.out (Below.refl _ _).drew)
    replace bq:=hid (X05 bq.out (Below.refl _ _).drew)
    refine' tk 0 rfl hS ?_
    try simp only[putA]
    refine' tk 1 rfl hS ?_
    try simp only[putA]
    refine' tkL 2 rfl (fun _ h=>h.1) hS ?_
    try simp only[putA]
    refine rdy 3 rfl fun K hK=>?_
    go_simp
    go_at_call 12
    refine(X4j rs.out).mono ?_
    rintro e w4 ⟨rfl,q4⟩
    go_wp2_with fail
    refine hK.out _ _ (XFF hS q4) (fun hSn=>?_)
    clear hK K hS
    have hS:=hSn
    clear hSn
    try simp only[putA]
    replace hT:=hid (tabs_next hT.out q4)
    replace rs:=hid (X08 rs.out q4)
    replace ri:=hid (X01 ri.out q4)
    replace ro:=hid (X01 ro.out q4)
    replace x0:=hid (XFa x0.out q4)
    replace x1:=hid (XFa x1.out q4)
    replace x2:=hid (XFa x2.out q4)
    replace rt:=hid (X08 rt.out q4)
    replace rj:=hid (X01 rj.out q4)
    replace rp:=hid (X01 rp.out q4)
    replace xt:=hid (XFa xt.out q4)
    replace xj:=hid (XFa xj.out q4)
    replace xp:=hid (XFa xp.out q4)
    replace bq:=hid (X05 bq.out q4)
    clear q4
    refine rdy 4 rfl fun K hK=>?_
    go_simp
    go_at_call 17
    refine(a0.out _ w4 hT.out rs.out).mono ?_
    rintro e w5 ⟨rfl,q5⟩
    go_wp2_with fail
    refine hK.out _ _ (XFF hS q5) (fun hSn=>?_)
    clear hK K hS
    have hS:=hSn
    clear hSn
    try simp only[putA]
    replace hT:=hid (tabs_next hT.out q5)
    replace rs:=hid (X08 rs.out q5)
    replace ri:=hid (X01 ri.out q5)
    replace ro:=hid (X01 ro.out q5)
    replace x0:=hid (XFa x0.out q5)
    replace x1:=hid (XFa x1.out q5)
    replace x2:=hid (XFa x2.out q5)
    replace rt:=hid (X08 rt.out q5)
    replace rj:=hid (X01 rj.out q5)
    replace rp:=hid (X01 rp.out q5)
    replace xt:=hid (XFa xt.out q5)
    replace xj:=hid (XFa xj.out q5)
    replace xp:=hid (XFa xp.out q5)
    replace bq:=hid (X05 bq.out q5)
    clear q5
    refine' tk 5 rfl hS ?_
    try simp only[putA]
    refine' tk 6 rfl hS ?_
    try simp only[putA]
    refine' tkL 7 rfl (fun _ h=>h.1) hS ?_
    try simp only[putA]
    refine' tkL 9 rfl (fun _ h=>h.2.1) hS ?_
    try simp only[putA]
    refine' tkL 11 rfl (fun _ h=>h.2.2) hS ?_
    try simp only[putA]
    refine' tk 14 rfl hS ?_
    try simp only[putA]
    refine rdy 8 rfl fun K hK=>?_
    go_simp
    go_at_call 12
    refine(X4j rs.out).mono ?_
    rintro e w6 ⟨rfl,q6⟩
    go_wp2_with fail
    refine hK.out _ _ (XFF hS q6) (fun hSn=>?_)
    clear hK K hS
    have hS:=hSn
    clear hSn
    try simp only[putA]
    replace hT:=hid (tabs_next hT.out q6)
    replace rs:=hid (X08 rs.out q6)
    replace ri:=hid (X01 ri.out q6)
    replace ro:=hid (X01 ro.out q6)
    replace x0:=hid (XFa x0.out q6)
    replace x1:=hid (XFa x1.out q6)
    replace x2:=hid (XFa x2.out q6)
    replace rt:=hid (X08 rt.out q6)
    replace rj:=hid (X01 rj.out q6)
    replace rp:=hid (X01 rp.out q6)
    replace xt:=hid (XFa xt.out q6)
    replace xj:=hid (XFa xj.out q6)
    replace xp:=hid (XFa xp.out q6)
    replace bq:=hid (X05 bq.out q6)
    clear q6
    refine rdy 10 rfl fun K hK=>?_
    go_simp
    go_at_call 13
    refine(X2r ri.out).mono ?_
    rintro e w7 ⟨rfl,q7⟩
    go_wp2_with fail
    refine hK.out _ _ (XFF hS q7) (fun hSn=>?_)
    clear hK K hS
    have hS:=hSn
    clear hSn
    try simp only[putA]
    replace hT:=hid (tabs_next hT.out q7)
    replace rs:=hid (X08 rs.out q7)
    replace ri:=hid (X01 ri.out q7)
    replace ro:=hid (X01 ro.out q7)
    replace x0:=hid (XFa x0.out q7)
    replace x1:=hid (XFa x1.out q7)
    replace x2:=hid (XFa x2.out q7)
    replace rt:=hid (X08 rt.out q7)
    replace rj:=hid (X01 rj.out q7)
    replace rp:=hid (X01 rp.out q7)
    replace xt:=hid (XFa xt.out q7)
    replace xj:=hid (XFa xj.out q7)
    replace xp:=hid (XFa xp.out q7)
    replace bq:=hid (X05 bq.out q7)
    clear q7
    refine rdy 12 rfl fun K hK=>?_
    go_simp
    go_at_call 13
    refine(X2r ro.out).mono ?_
    rintro e w8 ⟨rfl,q8⟩
    go_wp2_with fail
    refine hK.out _ _ (XFF hS q8) (fun hSn=>?_)
    clear hK K hS
    have hS:=hSn
    clear hSn
    try simp only[putA]
    replace hT:=hid (tabs_next hT.out q8)
    replace rs:=hid (X08 rs.out q8)
    replace ri:=hid (X01 ri.out q8)
    replace ro:=hid (X01 ro.out q8)
    replace x0:=hid (XFa x0.out q8)
    replace x1:=hid (XFa x1.out q8)
    replace x2:=hid (XFa x2.out q8)
    replace rt:=hid (X08 rt.out q8)
    replace rj:=hid (X01 rj.out q8)
    replace rp:=hid (X01 rp.out q8)
    replace xt:=hid (XFa xt.out q8)
    replace xj:=hid (XFa xj.out q8)
    replace xp:=hid (XFa xp.out q8)
    replace bq:=hid (X05 bq.out q8)
    clear q8
    refine rdy 13 rfl fun K hK=>?_
    go_simp
    go_at_call 19
    refine(a4.out _ _ _ w8 hT.out rs.out ri.out ro.out).mono ?_
    rintro e w9 ⟨rfl,q9⟩
    go_wp2_with fail
    refine hK.out _ _ (XFF hS q9) (fun hSn=>?_)
    clear hK K hS
    have hS:=hSn
    clear hSn
    try simp only[putA]
    replace hT:=hid (tabs_next hT.out q9)
    replace rs:=hid (X08 rs.out q9)
    replace ri:=hid (X01 ri.out q9)
    replace ro:=hid (X01 ro.out q9)
    replace x0:=hid (XFa x0.out q9)
    replace x1:=hid (XFa x1.out q9)
    replace x2:=hid (XFa x2.out q9)
    replace rt:=hid (X08 rt.out q9)
    replace rj:=hid (X01 rj.out q9)
    replace rp:=hid (X01 rp.out q9)
    replace xt:=hid (XFa xt.out q9)
    replace xj:=hid (XFa xj.out q9)
    replace xp:=hid (XFa xp.out q9)
    replace bq:=hid (X05 bq.out q9)
    clear q9
    refine' tk 15 rfl hS ?_
    try simp only[putA]
    refine' tk 16 rfl hS ?_
    try simp only[putA]
    refine wpAnyH_done (by kernel_rfl) ?_ _
    clear hS
    go_wp2_with (first | refine ldX xt.out ?_ | refine ldX xj.out ?_ | refine ldX xp.out ?_)
    refine(T.out _ w9 hT.out rt.out).mono ?_
    rintro e ag ⟨rfl,f⟩
    replace hT:=hid (tabs_next hT.out f)
    replace rs:=hid (X08 rs.out f)
    replace ri:=hid (X01 ri.out f)
    replace ro:=hid (X01 ro.out f)
    replace x0:=hid (XFa x0.out f)
    replace x1:=hid (XFa x1.out f)
    replace x2:=hid (XFa x2.out f)
    replace rt:=hid (X08 rt.out f)
    replace rj:=hid (X01 rj.out f)
    replace rp:=hid (X01 rp.out f)
    replace xt:=hid (XFa xt.out f)
    replace xj:=hid (XFa xj.out f)
    replace xp:=hid (XFa xp.out f)
    replace bq:=hid (X05 bq.out f)
    clear f
    go_wp2_with (first | refine ldX xt.out ?_ | refine ldX xj.out ?_ | refine ldX xp.out ?_)
    refine(O.out _ ag hT.out rt.out).mono ?_
    rintro e ap ⟨rfl,b⟩
    replace hT:=hid (tabs_next hT.out b)
    replace rs:=hid (X08 rs.out b)
    replace ri:=hid (X01 ri.out b)
    replace ro:=hid (X01 ro.out b)
    replace x0:=hid (XFa x0.out b)
    replace x1:=hid (XFa x1.out b)
    replace x2:=hid (XFa x2.out b)
    replace rt:=hid (X08 rt.out b)
    replace rj:=hid (X01 rj.out b)
    replace rp:=hid (X01 rp.out b)
    replace xt:=hid (XFa xt.out b)
    replace xj:=hid (XFa xj.out b)
    replace xp:=hid (XFa xp.out b)
    replace bq:=hid (X05 bq.out b)
    clear b
    go_wp2_with (first | refine ldX xt.out ?_ | refine ldX xj.out ?_ | refine ldX xp.out ?_)
    refine(P.out _ ap rj.out).mono ?_
    rintro e w12 ⟨rfl,l⟩
    replace hT:=hid (tabs_next hT.out l)
    replace rs:=hid (X08 rs.out l)
    replace ri:=hid (X01 ri.out l)
    replace ro:=hid (X01 ro.out l)
    replace x0:=hid (XFa x0.out l)
    replace x1:=hid (XFa x1.out l)
    replace x2:=hid (XFa x2.out l)
    replace rt:=hid (X08 rt.out l)
    replace rj:=hid (X01 rj.out l)
    replace rp:=hid (X01 rp.out l)
    replace xt:=hid (XFa xt.out l)
    replace xj:=hid (XFa xj.out l)
    replace xp:=hid (XFa xp.out l)
    replace bq:=hid (X05 bq.out l)
    clear l
    go_wp2_with (first | refine ldX xt.out ?_ | refine ldX xj.out ?_ | refine ldX xp.out ?_)
    refine(R.out _ w12 rp.out).mono ?_
    rintro e aV ⟨rfl,g⟩
    replace hT:=hid (tabs_next hT.out g)
    replace rs:=hid (X08 rs.out g)
    replace ri:=hid (X01 ri.out g)
    replace ro:=hid (X01 ro.out g)
    replace x0:=hid (XFa x0.out g)
    replace x1:=hid (XFa x1.out g)
    replace x2:=hid (XFa x2.out g)
    replace rt:=hid (X08 rt.out g)
    replace rj:=hid (X01 rj.out g)
    replace rp:=hid (X01 rp.out g)
    replace xt:=hid (XFa xt.out g)
    replace xj:=hid (XFa xj.out g)
    replace xp:=hid (XFa xp.out g)
    replace bq:=hid (X05 bq.out g)
    clear g
    have c0:=XFe x0.out 0 _ a3.out
    go_wp2_with fail
    refine(M.out aV).mono ?_
    rintro e b4 ⟨vk,rfl,rk,G⟩
    replace hT:=hid (tabs_next hT.out G)
    replace rs:=hid (X08 rs.out G)
    replace ri:=hid (X01 ri.out G)
    replace ro:=hid (X01 ro.out G)
    replace x0:=hid (XFa x0.out G)
    replace x1:=hid (XFa x1.out G)
    replace x2:=hid (XFa x2.out G)
    replace rt:=hid (X08 rt.out G)
    replace rj:=hid (X01 rj.out G)
    replace rp:=hid (X01 rp.out G)
    replace xt:=hid (XFa xt.out G)
    replace xj:=hid (XFa xj.out G)
    replace xp:=hid (XFa xp.out G)
    replace bq:=hid (X05 bq.out G)
    replace rk:=hid rk
    clear c0
    clear G
    go_wp2_with fail
    refine(E.out _ b4 hT.out rk.out).mono ?_
    rintro e b5 ⟨rfl,z⟩
    replace hT:=hid (tabs_next hT.out z)
    replace rs:=hid (X08 rs.out z)
    replace ri:=hid (X01 ri.out z)
    replace ro:=hid (X01 ro.out z)
    replace x0:=hid (XFa x0.out z)
    replace x1:=hid (XFa x1.out z)
    replace x2:=hid (XFa x2.out z)
    replace rt:=hid (X08 rt.out z)
    replace rj:=hid (X01 rj.out z)
    replace rp:=hid (X01 rp.out z)
    replace xt:=hid (XFa xt.out z)
    replace xj:=hid (XFa xj.out z)
    replace xp:=hid (XFa xp.out z)
    replace rk:=hid (X08 rk.out z)
    replace bq:=hid (X05 bq.out z)
    clear z
    have c0:=XFe x0.out 0 _ a3.out
    go_wp2_with fail
    refine(M.out b5).mono ?_
    rintro e b6 ⟨vl,rfl,rl,C⟩
    replace hT:=hid (tabs_next hT.out C)
    replace rs:=hid (X08 rs.out C)
    replace ri:=hid (X01 ri.out C)
    replace ro:=hid (X01 ro.out C)
    replace x0:=hid (XFa x0.out C)
    replace x1:=hid (XFa x1.out C)
    replace x2:=hid (XFa x2.out C)
    replace rt:=hid (X08 rt.out C)
    replace rj:=hid (X01 rj.out C)
    replace rp:=hid (X01 rp.out C)
    replace xt:=hid (XFa xt.out C)
    replace xj:=hid (XFa xj.out C)
    replace xp:=hid (XFa xp.out C)
    replace rk:=hid (X08 rk.out C)
    replace bq:=hid (X05 bq.out C)
    replace rl:=hid rl
    clear c0
    clear C
    go_wp2_with fail
    refine(D.out _ b6 hT.out rl.out).mono ?_
    rintro e b8 ⟨rfl,x⟩
    replace hT:=hid (tabs_next hT.out x)
    replace rs:=hid (X08 rs.out x)
    replace ri:=hid (X01 ri.out x)
    replace ro:=hid (X01 ro.out x)
    replace x0:=hid (XFa x0.out x)
    replace x1:=hid (XFa x1.out x)
    replace x2:=hid (XFa x2.out x)
    replace rt:=hid (X08 rt.out x)
    replace rj:=hid (X01 rj.out x)
    replace rp:=hid (X01 rp.out x)
    replace xt:=hid (XFa xt.out x)
    replace xj:=hid (XFa xj.out x)
    replace xp:=hid (XFa xp.out x)
    replace rk:=hid (X08 rk.out x)
    replace rl:=hid (X08 rl.out x)
    replace bq:=hid (X05 bq.out x)
    clear x
    go_wp2_with fail
    go_ret
    exact⟨rfl,bq.out⟩
end Go.Proofs.YtkofnpkopbnocaaGreatDoor
