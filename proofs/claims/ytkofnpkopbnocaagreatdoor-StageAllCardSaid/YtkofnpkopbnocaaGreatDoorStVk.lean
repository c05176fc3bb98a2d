import Derived.Test.YtkofnpkopbnocaaGreatDoorTk
import Derived.Test.YtkofnpkopbnocaaGreatDoorStBk
import Derived.Test.YtkofnpkopbnocaaGreatDoorChPk
import Derived.Test.YtkofnpkopbnocaaGreatDoorMaW0
import Derived.Test.YtkofnpkopbnocaaGreatDoorMaBP
import Derived.Test.YtkofnpkopbnocaaGreatDoorDcRP
import Derived.Test.YtkofnpkopbnocaaGreatDoorCnRP
import Derived.Test.YtkofnpkopbnocaaGreatDoorBasP
import Derived.Deep.LoopGhost
import Derived.Deep.DeepCutAuto
import Derived.Test.YtkofnpkopbnocaaGreatDoorCnP
import Derived.Test.YtkofnpkopbnocaaGreatDoorPaRP
import Derived.Test.YtkofnpkopbnocaaGreatDoorPaP
import Derived.Laws.OwnMore
import Derived.Test.YtkofnpkopbnocaaGreatDoorMthP
import Derived.KernelRfl
import Derived.Test.YtkofnpkopbnocaaGreatDoorMatP
import Derived.Test.YtkofnpkopbnocaaGreatDoorKP
import Derived.Test.YtkofnpkopbnocaaGreatDoorPrP
import Derived.Test.YtkofnpkopbnocaaGreatDoorBasQ
import Derived.Test.YtkofnpkopbnocaaGreatDoorFrP
import Derived.Test.YtkofnpkopbnocaaGreatDoorC1
import Derived.OwnWalk
import Derived.Deep.RegionHeld3
import Derived.Deep.RegionHeld
import Derived.OrdersHeld
set_option maxRecDepth 100000
set_option maxHeartbeats 6400000
namespace Go.Proofs.YtkofnpkopbnocaaGreatDoor
set_option linter.unusedSimpArgs false
set_option linter.unusedVariables false
open Go Go.RowKit Go.Lib
open Mch (MS)
open Stg (Ch St)
theorem X2Y{w:World}{k:Nat}(h:w.heap.size=k)(cs:Array Value)(T:TypeId):Blk (w.alloc (.cells cs T)) k cs T:=h ▸ X0g w cs T
theorem Stg.small_sane{s:St}(h:Stg.saneS s=true)(hk:I64 s.m.kind):s.Small:=by
 have h2:=(Stg.X3I s).1 h
 exact⟨Mch.small_sane h2.m,by have:=h2.pend;omega,hk⟩
open Go.RowKit Go.Lib
def FT(q:St × Ch × Ch × Bool)(J:Nat→Prop)(v:Value)(w:World):Prop:=∃vs vi vo,v= .tuple #[vs,vi,vo, .bool q.2.2.2]∧RS J w vs q.1∧RCh J w vi q.2.1∧RCh J w vo q.2.2.1
def FP(B:Nat)(cs:Array Value)(T:TypeId)(v:Value)(w:World):Prop:=∃p,v= .pointer (some ⟨p,0,none⟩)∧B≤p∧Blk w p cs T
theorem X2s{q:St × Ch × Ch × Bool}{J:Nat→Prop}{v:Value}{w w1:World}(h:FT q J v w)(hb:Below w.heap.size w w1):FT q J v w1:=by
 obtain⟨vs,vi,vo,e,h1,h2,h3⟩:=h
 exact⟨vs,vi,vo,e,X08 h1 hb,X01 h2 hb,X01 h3 hb⟩
theorem X2t{q:St × Ch × Ch × Bool}{J:Nat→Prop}{v:Value}{w:World}{p:Nat}(h:FT q J v w)(hp:w.heap.size≤p):FT q (fun j=>J j∨j=p) v w:=by
 obtain⟨vs,vi,vo,e,h1,h2,h3⟩:=h
 exact⟨vs,vi,vo,e,X5L h1 hp,X2b h2 hp,X2b h3 hp⟩
theorem X1r{B:Nat}{cs:Array Value}{T:TypeId}{v:Value}{w w1:World}(h:FP B cs T v w)(hb:Below w.heap.size w w1):FP B cs T v w1:=by
 obtain⟨p,e,h1,h2⟩:=h
 exact⟨p,e,h1,X02 h2 hb⟩
theorem XAT{J:Nat→Prop}{w:World}{v:Value}{x:Int}{cl:Bool}(h:RCh J w v ⟨[[x]],cl⟩): ∃b off cap b2 o2 c2,v= .agg #[.slice (some ⟨b,off,none⟩) 1 cap, .bool cl]∧w.cell? ⟨b,off,none⟩=some (.slice (some ⟨b2,o2,none⟩) 1 c2)∧w.cell? ⟨b2,o2,none⟩=some (.int .i64 x):=by
 obtain⟨p,cap,rfl,hr⟩:=X0m h
 obtain⟨b,off,rfl,_,_,h2⟩:=XmG hr (by simp)
 obtain⟨u,h3,h4⟩:=h2 0 (by simp)
 obtain⟨p2,c2,rfl⟩:=X0b h4.1
 rcases h4.1 with⟨h5,_⟩ | ⟨a,c3,h5,_,h6⟩
 ·simp at h5
 ·obtain⟨b2,o2,rfl,_,h7⟩:=h6 (by simp)
  cases h5
  exact⟨b,off,cap,b2,o2,_,rfl,h3,h7 0 (by simp)⟩
theorem bx_in{w:World}{k:Nat}{cs:Array Value}{T:TypeId}(h:Blk w k cs T):k<w.heap.size:=(Array.getElem?_eq_some_iff.1 h).1
theorem X1Y(w:World)(o:Obj):RgA.New (.pointer (some ⟨w.heap.size,0,none⟩)) w (w.alloc o):=⟨_,rfl,Nat.le_refl _,by simp⟩
def X23:Array Value:= #[.int .i64 0, .string ⟨#[]⟩, .slice none 0 0, .slice none 0 0, .bool false, .int .i64 0, .bool false, .bool false, .slice none 0 0, .slice none 0 0, .bool false, .bool false]
def zero2:Array Value:= #[.slice none 0 0, .bool false]
namespace Stg
def exA:Ch:=⟨[[101,769]],true⟩
def ex1:St:=⟨⟨1,[],[101,769],[],⟨false,0,false,false⟩,[]⟩,[],false,false⟩
def ex2:St:=⟨⟨1,[],[],[],⟨false,0,false,false⟩,[]⟩,[233],true,false⟩
def ex3:St:=⟨⟨1,[],[],[],⟨false,0,false,false⟩,[]⟩,[],true,false⟩
theorem ex_1:stepS (newS 1) exA ⟨[],false⟩=(ex1,⟨[],true⟩,⟨[],false⟩,true):=by decide+kernel
theorem ex_2:stepS ex1 ⟨[],true⟩ ⟨[],false⟩=(ex2,⟨[],true⟩,⟨[],false⟩,true):=by decide+kernel
theorem ex_3:stepS ex2 ⟨[],true⟩ ⟨[],false⟩=(ex3,⟨[],true⟩,⟨[[233]],false⟩,true):=by decide+kernel
theorem ex_c:costS ex1=2:=by decide+kernel
theorem sm_1:ex1.Small:=⟨⟨by decide,by decide,by decide,by decide⟩,by decide,by decide⟩
theorem sm_2:ex2.Small:=⟨⟨by decide,by decide,by decide,by decide⟩,by decide,by decide⟩
theorem exf:exA.Few:=⟨by decide,by intro b h;simp [exA] at h;subst h;decide⟩
theorem exz:(⟨[],false⟩:Ch).Few:=⟨by decide,by intro b h;cases h⟩
theorem exzt:(⟨[],true⟩:Ch).Few:=⟨by decide,by intro b h;cases h⟩
theorem exw:exA.Wf:=by intro b h;simp [exA] at h;subst h;intro x hx;simp at hx;rcases hx with rfl | rfl <;> decide
theorem exwt:(⟨[],true⟩:Ch).Wf:=by intro b h;cases h
theorem XCJ(k:Int)(hk:I64 (Mch.newM k).kind):(newS k).Small:=⟨Mch.small_new k,by simp [newS],hk⟩
end Stg
theorem X5R(hN:NewC17)(hS:StepC17)(hK:CostC17)(w:World)(hT:Tabs w):
 Calls Tryz.prog 9 #[] w fun e w'=>e= .returned (.bool true)∧Below w.heap.size w w':=by
 obtain⟨W,hW⟩: ∃W,(((w.alloc (.cells #[.int .i64 101, .int .i64 769] 3)).alloc (.cells #[.slice (some ⟨w.heap.size,0,none⟩) 2 2] 24)).alloc (.cells #[.slice (some ⟨w.heap.size+1,0,none⟩) 1 1, .bool true] 49))=W:=⟨_,rfl⟩
 have ad:Below w.heap.size w W:=by rw[←hW];exact X6J w _ _ _
 have ae:Blk W.drew (w.heap.size+1+1) #[.slice (some ⟨w.heap.size+1,0,none⟩) 1 1, .bool true] 49:=by rw[←hW];exact X2Y (by simp) _ _
 have an:Blk W.drew (w.heap.size+1) #[.slice (some ⟨w.heap.size,0,none⟩) 2 2] 24:=by rw[←hW];exact X02 (X2Y (w:=w.alloc (.cells #[.int .i64 101, .int .i64 769] 3)) (k:=w.heap.size+1) (by simp) _ _) (X04 _ _).drew
 have aK:RIo (fun _=>False) W.drew (.slice (some ⟨w.heap.size,0,none⟩) 2 2) [101,769]:=by
  rw[←hW]
  exact Xcz (X3l (X03 (X0a (X0H w.heap.size w [101,769] #[.int .i64 101, .int .i64 769] w.heap.size 2 rfl (Nat.le_refl _) rfl rfl (by unfold maxLen;omega))) ((X04 _ _).alloc (X04 _ _).size _)))
 have ac:RCh (fun _=>False) W.drew (.agg #[.slice (some ⟨w.heap.size+1,0,none⟩) 1 1, .bool true]) Stg.exA:=⟨_,rfl, .inr ⟨_,1,rfl,Nat.le_refl _,fun _=>⟨_,0,rfl,bx_in an,fun h=>h,fun i hi=>(by
  obtain rfl:i=0:=by simpa [Stg.exA] using hi
  exact⟨_,X00 an 0 _ rfl,aK⟩)⟩⟩⟩
 have a6:=tabs_next hT ad
 have D:=fun J V VI VO Wz o t r1 r2 r3=>hS J V (Stg.newS 1) VI Stg.exA VO ⟨[],false⟩ Wz t o (Stg.XCJ 1 (by decide)) Stg.exf Stg.exz Stg.exw r1 r2 r3
 rw[Stg.ex_1] at D
 unfold XeD at D
 have G:=fun V VI VO Wz t r1 r2 r3=>hS N0 V Stg.ex1 VI ⟨[],true⟩ VO ⟨[],false⟩ Wz t (old0 _) Stg.sm_1 Stg.exzt Stg.exz Stg.exwt r1 r2 r3
 have I:=fun V VI VO Wz t r1 r2 r3=>hS N0 V Stg.ex2 VI ⟨[],true⟩ VO ⟨[],false⟩ Wz t (old0 _) Stg.sm_2 Stg.exzt Stg.exz Stg.exwt r1 r2 r3
 rw[Stg.ex_2] at G
 rw[Stg.ex_3] at I
 unfold XeD at G I
 have E:=fun V Wz t r=>hK N0 V Stg.ex1 Wz t Stg.sm_1 r
 rw[Stg.ex_c] at E
 replace G:=hid G
 replace I:=hid I
 replace E:=hid E
 have aG:w.heap.size≤W.drew.heap.size:=ad.size
 replace D:=hid D
 replace ae:=hid ae
 replace ac:=hid ac
 replace a6:=hid (show Tabs W.drew from a6)
 clear an aK
 go_enter Tryz.func9,Tryz.ntmps9
 go_upto_region 2 with(fail)
 try rw[hW]
 clear hW
 refine RgA.X3b (J0:=fun _=>False) (X:= [0,1,2,3,4,5,9,10,11]) (Y:= [6,7,8]) (A:= [9,10,11]) (F:=fun k J v wz=>match k with
  | 0=>RS J wz v (Stg.newS 1)
  | 1=>v= .agg #[.slice (some ⟨w.heap.size+1,0,none⟩) 1 1, .bool true]
  | 2=>v= .agg #[.slice none 0 0, .bool false]
  | 3=>FT (Stg.ex1,⟨[],true⟩,⟨[],false⟩,true) J v wz
  | 4=>FT (Stg.ex1,⟨[],true⟩,⟨[],false⟩,true) J v wz
  | 5=>RS J wz v Stg.ex1
  | 6=>RCh J wz v ⟨[],true⟩
  | 7=>RCh J wz v ⟨[],false⟩
  | 8=>v= .bool true
  | 9=>FP W.heap.size X23 48 v wz
  | 10=>FP W.heap.size zero2 49 v wz
  | 11=>FP W.heap.size zero2 49 v wz
  | _=>True) _ (by kernel_rfl) (by kernel_rfl) (by kernel_rfl) (by decide) (fun c a d v wz h=>by cases d <;> exact h) (fun _ h=>h.elim) ?stable ?fresh ?self ?step ?pure ?fin
 case stable=>
  intro k J v wz b5 h hb
  match k,h with
  | 0,h=>exact X08 h hb
  | 1,h=>exact h
  | 2,h=>exact h
  | 3,h=>exact X2s h hb
  | 4,h=>exact X2s h hb
  | 5,h=>exact X08 h hb
  | 6,h=>exact X01 h hb
  | 7,h=>exact X01 h hb
  | 8,h=>exact h
  | 9,h=>exact X1r h hb
  | 10,h=>exact X1r h hb
  | 11,h=>exact X1r h hb
  | _+12,h=>trivial
 case fresh=>
  intro k J v wz p h hp
  match k,h with
  | 0,h=>exact X5L h hp
  | 1,h=>exact h
  | 2,h=>exact h
  | 3,h=>exact X2t h hp
  | 4,h=>exact X2t h hp
  | 5,h=>exact X5L h hp
  | 6,h=>exact X2b h hp
  | 7,h=>exact X2b h hp
  | 8,h=>exact h
  | 9,h=>exact h
  | 10,h=>exact h
  | 11,h=>exact h
  | _+12,h=>trivial
 case self=>
  intro k hk J J' v wz h
  simp only[List.mem_cons,List.not_mem_nil,or_false] at hk
  rcases hk with rfl | rfl | rfl <;> exact h
 case step=>
  simp only[List.cons_append,List.nil_append]
  refine RgA.Steps.cons rfl ?_ (RgA.Steps.cons rfl ?_ (RgA.Steps.cons rfl ?_ (RgA.Steps.cons rfl ?_ (RgA.Steps.cons rfl ?_ (RgA.Steps.cons rfl ?_ (RgA.Steps.cons rfl ?_ (RgA.Steps.cons rfl ?_ (RgA.Steps.cons rfl ?_ (RgA.Steps.cons rfl ?_ (RgA.Steps.cons rfl ?_ (RgA.Steps.cons rfl ?_ RgA.Steps.nil)))))))))))
  ·intro y wz J hJ m g hd K' hK
   rw[RgA.X0q _ [(0,18),(1,19),(2,20),(3,21),(4,17),(5,22),(9,2),(10,3),(11,4),(6,23),(7,24),(8,25)] (by kernel_rfl)] at hK ⊢
   simp only[RgA.mkL,List.foldl_cons,List.foldl_nil,List.setIfInBounds_toArray,List.set_cons_succ,List.set_cons_zero] at hK ⊢
   go_simp
   refine(hN J 1 wz (by constructor <;> decide)).mono ?_
   rintro e w1 ⟨v0,rfl,r0,q0⟩
   go_wp2_with fail
   have H:=hK.out (v0) w1 (r0) (q0) (fun h=>by simp at h)
   simp only[Act.put,List.setIfInBounds_toArray,List.set_cons_succ,List.set_cons_zero] at H
   exact H
  ·intro y wz J hJ m g hd K' hK
   rw[RgA.X0q _ [(0,18),(1,19),(2,20),(3,21),(4,17),(5,22),(9,2),(10,3),(11,4),(6,23),(7,24),(8,25)] (by kernel_rfl)] at hK ⊢
   simp only[RgA.mkL,List.foldl_cons,List.foldl_nil,List.setIfInBounds_toArray,List.set_cons_succ,List.set_cons_zero] at hK ⊢
   have x0:=X02 ae.out g
   have aZ:=X00 x0 0 _ rfl
   have b0:=X00 x0 1 _ rfl
   go_simp
   have H:=hK.out (.agg #[.slice (some ⟨w.heap.size+1,0,none⟩) 1 1, .bool true]) wz (rfl) (Below.refl _ _) (fun h=>by simp at h)
   simp only[Act.put,List.setIfInBounds_toArray,List.set_cons_succ,List.set_cons_zero] at H
   exact H
  ·intro y wz J hJ m g hd K' hK
   rw[RgA.X0q _ [(0,18),(1,19),(2,20),(3,21),(4,17),(5,22),(9,2),(10,3),(11,4),(6,23),(7,24),(8,25)] (by kernel_rfl)] at hK ⊢
   simp only[RgA.mkL,List.foldl_cons,List.foldl_nil,List.setIfInBounds_toArray,List.set_cons_succ,List.set_cons_zero] at hK ⊢
   go_simp
   have H:=hK.out (.agg #[.slice none 0 0, .bool false]) wz (rfl) (Below.refl _ _) (fun h=>by simp at h)
   simp only[Act.put,List.setIfInBounds_toArray,List.set_cons_succ,List.set_cons_zero] at H
   exact H
  ·intro y wz J hJ m g hd K' hK
   have d0:=hd 0 (by kernel_rfl)
   have d1:=hd 1 (by kernel_rfl)
   have d2:=hd 2 (by kernel_rfl)
   rw[RgA.X0q _ [(0,18),(1,19),(2,20),(3,21),(4,17),(5,22),(9,2),(10,3),(11,4),(6,23),(7,24),(8,25)] (by kernel_rfl)] at hK ⊢
   simp only[RgA.mkL,List.foldl_cons,List.foldl_nil,List.setIfInBounds_toArray,List.set_cons_succ,List.set_cons_zero] at hK ⊢
   rw[d1,d2] at hK ⊢
   go_simp
   refine(D.out J _ _ _ wz (fun j h=>(hJ j h).1) (tabs_next a6.out g) d0 (X01 (X0Q ac.out (fun j hj h=>(hJ j h).2.elim (fun h=>h) (fun h=>absurd hj (Nat.not_lt.2 h)))) g) (X5v _ _)).mono ?_
   rintro e w1 ⟨vs,vi,vo,rfl,r1,r2,r3,q0⟩
   go_wp2_with fail
   have H:=hK.out (.tuple #[vs,vi,vo, .bool true]) w1 (⟨vs,vi,vo,rfl,r1,r2,r3⟩) (q0) (fun h=>by simp at h)
   simp only[Act.put,List.setIfInBounds_toArray,List.set_cons_succ,List.set_cons_zero] at H
   exact H
  ·intro y wz J hJ m g hd K' hK
   have d3:=hd 3 (by kernel_rfl)
   rw[RgA.X0q _ [(0,18),(1,19),(2,20),(3,21),(4,17),(5,22),(9,2),(10,3),(11,4),(6,23),(7,24),(8,25)] (by kernel_rfl)] at hK ⊢
   simp only[RgA.mkL,List.foldl_cons,List.foldl_nil,List.setIfInBounds_toArray,List.set_cons_succ,List.set_cons_zero] at hK ⊢
   go_simp
   have H:=hK.out (y 3) wz (d3) (Below.refl _ _) (fun h=>by simp at h)
   simp only[Act.put,List.setIfInBounds_toArray,List.set_cons_succ,List.set_cons_zero] at H
   exact H
  ·intro y wz J hJ m g hd K' hK
   rw[RgA.X0q _ [(0,18),(1,19),(2,20),(3,21),(4,17),(5,22),(9,2),(10,3),(11,4),(6,23),(7,24),(8,25)] (by kernel_rfl)] at hK ⊢
   simp only[RgA.mkL,List.foldl_cons,List.foldl_nil,List.setIfInBounds_toArray,List.set_cons_succ,List.set_cons_zero] at hK ⊢
   obtain⟨vs,vi,vo,e4,r1,r2,r3⟩:=hd 4 (by kernel_rfl)
   rw[e4] at hK ⊢
   go_simp
   have H:=hK.out (vs) wz (r1) (Below.refl _ _) (fun h=>by simp at h)
   simp only[Act.put,List.setIfInBounds_toArray,List.set_cons_succ,List.set_cons_zero] at H
   exact H
  ·intro y wz J hJ m g hd K' hK
   rw[RgA.X0q _ [(0,18),(1,19),(2,20),(3,21),(4,17),(5,22),(9,2),(10,3),(11,4),(6,23),(7,24),(8,25)] (by kernel_rfl)] at hK ⊢
   simp only[RgA.mkL,List.foldl_cons,List.foldl_nil,List.setIfInBounds_toArray,List.set_cons_succ,List.set_cons_zero] at hK ⊢
   go_simp
   have H:=hK.out (.pointer (some ⟨wz.heap.size,0,none⟩)) (wz.alloc (.cells X23 48)) (⟨_,rfl,g.size,X0g wz _ _⟩) (X04 wz _) (fun _=>X1Y wz _)
   simp only[Act.put,List.setIfInBounds_toArray,List.set_cons_succ,List.set_cons_zero] at H
   exact H
  ·intro y wz J hJ m g hd K' hK
   rw[RgA.X0q _ [(0,18),(1,19),(2,20),(3,21),(4,17),(5,22),(9,2),(10,3),(11,4),(6,23),(7,24),(8,25)] (by kernel_rfl)] at hK ⊢
   simp only[RgA.mkL,List.foldl_cons,List.foldl_nil,List.setIfInBounds_toArray,List.set_cons_succ,List.set_cons_zero] at hK ⊢
   go_simp
   have H:=hK.out (.pointer (some ⟨wz.heap.size,0,none⟩)) (wz.alloc (.cells zero2 49)) (⟨_,rfl,g.size,X0g wz _ _⟩) (X04 wz _) (fun _=>X1Y wz _)
   simp only[Act.put,List.setIfInBounds_toArray,List.set_cons_succ,List.set_cons_zero] at H
   exact H
  ·intro y wz J hJ m g hd K' hK
   rw[RgA.X0q _ [(0,18),(1,19),(2,20),(3,21),(4,17),(5,22),(9,2),(10,3),(11,4),(6,23),(7,24),(8,25)] (by kernel_rfl)] at hK ⊢
   simp only[RgA.mkL,List.foldl_cons,List.foldl_nil,List.setIfInBounds_toArray,List.set_cons_succ,List.set_cons_zero] at hK ⊢
   go_simp
   have H:=hK.out (.pointer (some ⟨wz.heap.size,0,none⟩)) (wz.alloc (.cells zero2 49)) (⟨_,rfl,g.size,X0g wz _ _⟩) (X04 wz _) (fun _=>X1Y wz _)
   simp only[Act.put,List.setIfInBounds_toArray,List.set_cons_succ,List.set_cons_zero] at H
   exact H
  ·intro y wz J hJ m g hd K' hK
   rw[RgA.X0q _ [(0,18),(1,19),(2,20),(3,21),(4,17),(5,22),(9,2),(10,3),(11,4),(6,23),(7,24),(8,25)] (by kernel_rfl)] at hK ⊢
   simp only[RgA.mkL,List.foldl_cons,List.foldl_nil,List.setIfInBounds_toArray,List.set_cons_succ,List.set_cons_zero] at hK ⊢
   obtain⟨vs,vi,vo,e4,r1,r2,r3⟩:=hd 4 (by kernel_rfl)
   rw[e4] at hK ⊢
   go_simp
   have H:=hK.out (vi) wz (r2) (Below.refl _ _) (fun h=>by simp at h)
   simp only[Act.put,List.setIfInBounds_toArray,List.set_cons_succ,List.set_cons_zero] at H
   exact H
  ·intro y wz J hJ m g hd K' hK
   rw[RgA.X0q _ [(0,18),(1,19),(2,20),(3,21),(4,17),(5,22),(9,2),(10,3),(11,4),(6,23),(7,24),(8,25)] (by kernel_rfl)] at hK ⊢
   simp only[RgA.mkL,List.foldl_cons,List.foldl_nil,List.setIfInBounds_toArray,List.set_cons_succ,List.set_cons_zero] at hK ⊢
   obtain⟨vs,vi,vo,e4,r1,r2,r3⟩:=hd 4 (by kernel_rfl)
   rw[e4] at hK ⊢
   go_simp
   have H:=hK.out (vo) wz (r3) (Below.refl _ _) (fun h=>by simp at h)
   simp only[Act.put,List.setIfInBounds_toArray,List.set_cons_succ,List.set_cons_zero] at H
   exact H
  ·intro y wz J hJ m g hd K' hK
   rw[RgA.X0q _ [(0,18),(1,19),(2,20),(3,21),(4,17),(5,22),(9,2),(10,3),(11,4),(6,23),(7,24),(8,25)] (by kernel_rfl)] at hK ⊢
   simp only[RgA.mkL,List.foldl_cons,List.foldl_nil,List.setIfInBounds_toArray,List.set_cons_succ,List.set_cons_zero] at hK ⊢
   obtain⟨vs,vi,vo,e4,r1,r2,r3⟩:=hd 4 (by kernel_rfl)
   rw[e4] at hK ⊢
   go_simp
   have H:=hK.out (.bool true) wz (rfl) (Below.refl _ _) (fun h=>by simp at h)
   simp only[Act.put,List.setIfInBounds_toArray,List.set_cons_succ,List.set_cons_zero] at H
   exact H
 case pure=>
  refine RgA.Pures.cons rfl ?_ (RgA.Pures.cons rfl ?_ (RgA.Pures.cons rfl ?_ RgA.Pures.nil))
  ·intro y wz J hd
   obtain⟨vs,vi,vo,e4,r1,r2,r3⟩:=hd 4 (by kernel_rfl)
   refine⟨vi,r2,?_⟩
   rw[RgA.X0q _ [(0,18),(1,19),(2,20),(3,21),(4,17),(5,22),(9,2),(10,3),(11,4),(6,23),(7,24),(8,25)] (by kernel_rfl)]
   simp only[RgA.mkL,List.foldl_cons,List.foldl_nil,List.setIfInBounds_toArray,List.set_cons_succ,List.set_cons_zero]
   rw[e4]
   refine⟨by kernel_rfl,fun w'=>?_⟩
   go_simp
  ·intro y wz J hd
   obtain⟨vs,vi,vo,e4,r1,r2,r3⟩:=hd 4 (by kernel_rfl)
   refine⟨vo,r3,?_⟩
   rw[RgA.X0q _ [(0,18),(1,19),(2,20),(3,21),(4,17),(5,22),(9,2),(10,3),(11,4),(6,23),(7,24),(8,25)] (by kernel_rfl)]
   simp only[RgA.mkL,List.foldl_cons,List.foldl_nil,List.setIfInBounds_toArray,List.set_cons_succ,List.set_cons_zero]
   rw[e4]
   refine⟨by kernel_rfl,fun w'=>?_⟩
   go_simp
  ·intro y wz J hd
   obtain⟨vs,vi,vo,e4,r1,r2,r3⟩:=hd 4 (by kernel_rfl)
   refine⟨.bool true,rfl,?_⟩
   rw[RgA.X0q _ [(0,18),(1,19),(2,20),(3,21),(4,17),(5,22),(9,2),(10,3),(11,4),(6,23),(7,24),(8,25)] (by kernel_rfl)]
   simp only[RgA.mkL,List.foldl_cons,List.foldl_nil,List.setIfInBounds_toArray,List.set_cons_succ,List.set_cons_zero]
   rw[e4]
   refine⟨by kernel_rfl,fun w'=>?_⟩
   go_simp
 case fin=>
  intro y w1 aD J aU a8 aV hF ab
  have f5:=hF 5 (by decide)
  have f6:=hF 6 (by decide)
  have f7:=hF 7 (by decide)
  have e8:=hF 8 (by decide)
  obtain⟨p9,e9,aW,x9⟩:=hF 9 (by decide)
  obtain⟨a2,a4,aE,b⟩:=hF 10 (by decide)
  obtain⟨a3,a5,aF,f⟩:=hF 11 (by decide)
  have n1:p9≠a2:=fun h=>ab 9 (by decide) 10 (by decide) (by decide) (by rw[e9,a4,h])
  have n2:p9≠a3:=fun h=>ab 9 (by decide) 11 (by decide) (by decide) (by rw[e9,a5,h])
  have n3:a2≠a3:=fun h=>ab 10 (by decide) 11 (by decide) (by decide) (by rw[a4,a5,h])
  have j9:=a8 9 (by decide) p9 e9
  have ao:=a8 10 (by decide) a2 a4
  have ap:=a8 11 (by decide) a3 a5
  try dsimp only at f5 f6 f7 e8
  obtain⟨pn,cn,pg,cg,pc,cc,pp,cp,e5⟩:=X2a f5
  obtain⟨pi,ki,e6,_⟩:=X0m f6
  obtain⟨po,ko,e7,_⟩:=X0m f7
  rw[e5] at f5
  rw[e6] at f6
  rw[e7] at f7
  rw[RgA.X0q _ [(0,18),(1,19),(2,20),(3,21),(4,17),(5,22),(9,2),(10,3),(11,4),(6,23),(7,24),(8,25)] (by kernel_rfl)]
  simp only[RgA.mkL,List.foldl_cons,List.foldl_nil,List.setIfInBounds_toArray,List.set_cons_succ,List.set_cons_zero]
  rw[e9,a4,a5,e5,e6,e7,e8]
  unfold X34 Stg.ex1 at f5 ⊢
  try dsimp only at f5 f6 f7 ⊢
  unfold X23 at x9
  unfold zero2 at b f
  have L:=X00 x9 0 _ rfl
  have M:=X00 x9 1 _ rfl
  have N:=X00 x9 2 _ rfl
  have O:=X00 x9 3 _ rfl
  have P:=X00 x9 4 _ rfl
  have R:=X00 x9 5 _ rfl
  have S:=X00 x9 6 _ rfl
  have T:=X00 x9 7 _ rfl
  have U:=X00 x9 8 _ rfl
  have a0:=X00 x9 9 _ rfl
  have x:=X00 x9 10 _ rfl
  have z:=X00 x9 11 _ rfl
  have ar:=X06 x9 0
  have au:=X06 x9 1
  have av:=X06 x9 2
  have aw:=X06 x9 3
  have ax:=X06 x9 4
  have ay:=X06 x9 5
  have az:=X06 x9 6
  have aA:=X06 x9 7
  have aB:=X06 x9 8
  have aC:=X06 x9 9
  have aj:=X06 x9 10
  have ak:=X06 x9 11
  clear e5 e6 e7 e8 e9 a4 a5 ab aU a8 hF
  refine rdy 12 rfl fun K hK=>?_
  go_simp
  change K _ (setL w1 p9 0 [.int .i64 1, .string ⟨#[]⟩, .slice pn 2 cn, .slice pg 0 cg, .bool false, .int .i64 0, .bool false, .bool false, .slice pc 0 cc, .slice pp 0 cp, .bool false, .bool false])
  have g5:=X3f f5 (X0r j9 [.int .i64 1, .string ⟨#[]⟩, .slice pn 2 cn, .slice pg 0 cg, .bool false, .int .i64 0, .bool false, .bool false, .slice pc 0 cc, .slice pp 0 cp, .bool false, .bool false] w1 0)
  have g6:=X0L f6 (X0r j9 [.int .i64 1, .string ⟨#[]⟩, .slice pn 2 cn, .slice pg 0 cg, .bool false, .int .i64 0, .bool false, .bool false, .slice pc 0 cc, .slice pp 0 cp, .bool false, .bool false] w1 0)
  have g7:=X0L f7 (X0r j9 [.int .i64 1, .string ⟨#[]⟩, .slice pn 2 cn, .slice pg 0 cg, .bool false, .int .i64 0, .bool false, .bool false, .slice pc 0 cc, .slice pp 0 cp, .bool false, .bool false] w1 0)
  have a9:=X13 (i:=0) [.int .i64 1, .string ⟨#[]⟩, .slice pn 2 cn, .slice pg 0 cg, .bool false, .int .i64 0, .bool false, .bool false, .slice pc 0 cc, .slice pp 0 cp, .bool false, .bool false] (show W.drew.heap.size≤p9 from aW) aD
  have l:=X1q (i:=0) [.int .i64 1, .string ⟨#[]⟩, .slice pn 2 cn, .slice pg 0 cg, .bool false, .int .i64 0, .bool false, .bool false, .slice pc 0 cc, .slice pp 0 cp, .bool false, .bool false] x9
  have B:=X0K (i:=0) [.int .i64 1, .string ⟨#[]⟩, .slice pn 2 cn, .slice pg 0 cg, .bool false, .int .i64 0, .bool false, .bool false, .slice pc 0 cc, .slice pp 0 cp, .bool false, .bool false] n1 b
  have C:=X0K (i:=0) [.int .i64 1, .string ⟨#[]⟩, .slice pn 2 cn, .slice pg 0 cg, .bool false, .int .i64 0, .bool false, .bool false, .slice pc 0 cc, .slice pp 0 cp, .bool false, .bool false] n2 f
  clear L M N O P R S T U a0 x z ar au av aw ax ay az aA aB aC aj ak
  refine hK.out _ _ a9 (fun hSn=>?_)
  clear hK K hSn
  obtain⟨w2,aH⟩: ∃X,setL w1 p9 0 [.int .i64 1, .string ⟨#[]⟩, .slice pn 2 cn, .slice pg 0 cg, .bool false, .int .i64 0, .bool false, .bool false, .slice pc 0 cc, .slice pp 0 cp, .bool false, .bool false]=X:=⟨_,rfl⟩
  rw[aH] at g5 g6 g7 a9 l B C ⊢
  clear aH
  simp only[setA,List.setIfInBounds_toArray,List.set_cons_succ,List.set_cons_zero] at l
  clear f5 f6 f7 x9 b f
  have f5:=g5
  have f6:=g6
  have f7:=g7
  have x9:=l
  have b:=B
  have f:=C
  clear g5 g6 g7 l B C
  have n:=X00 b 0 _ rfl
  have q:=X00 b 1 _ rfl
  have af:=X06 b 0
  have ag:=X06 b 1
  refine rdy 13 rfl fun K hK=>?_
  go_simp
  change K _ (setL w2 a2 0 [.slice pi 0 ki, .bool true])
  have g5:=X3f f5 (X0r ao [.slice pi 0 ki, .bool true] w2 0)
  have g6:=X0L f6 (X0r ao [.slice pi 0 ki, .bool true] w2 0)
  have g7:=X0L f7 (X0r ao [.slice pi 0 ki, .bool true] w2 0)
  have aa:=X13 (i:=0) [.slice pi 0 ki, .bool true] (show W.drew.heap.size≤a2 from aE) a9
  have l:=X1q (i:=0) [.slice pi 0 ki, .bool true] b
  have B:=X0K (i:=0) [.slice pi 0 ki, .bool true] n1.symm x9
  have C:=X0K (i:=0) [.slice pi 0 ki, .bool true] n3 f
  clear n q af ag
  refine hK.out _ _ aa (fun hSn=>?_)
  clear hK K hSn
  obtain⟨w3,aI⟩: ∃X,setL w2 a2 0 [.slice pi 0 ki, .bool true]=X:=⟨_,rfl⟩
  rw[aI] at g5 g6 g7 aa l B C ⊢
  clear aI
  simp only[setA,List.setIfInBounds_toArray,List.set_cons_succ,List.set_cons_zero] at l
  clear f5 f6 f7 b x9 f
  have f5:=g5
  have f6:=g6
  have f7:=g7
  have b:=l
  have x9:=B
  have f:=C
  clear g5 g6 g7 l B C
  have s:=X00 f 0 _ rfl
  have u:=X00 f 1 _ rfl
  have ah:=X06 f 0
  have ai:=X06 f 1
  refine rdy 14 rfl fun K hK=>?_
  go_simp
  change K _ (setL w3 a3 0 [.slice po 0 ko, .bool false])
  have g5:=X3f f5 (X0r ap [.slice po 0 ko, .bool false] w3 0)
  have g6:=X0L f6 (X0r ap [.slice po 0 ko, .bool false] w3 0)
  have g7:=X0L f7 (X0r ap [.slice po 0 ko, .bool false] w3 0)
  have a1:=X13 (i:=0) [.slice po 0 ko, .bool false] (show W.drew.heap.size≤a3 from aF) aa
  have l:=X1q (i:=0) [.slice po 0 ko, .bool false] f
  have B:=X0K (i:=0) [.slice po 0 ko, .bool false] n2.symm x9
  have C:=X0K (i:=0) [.slice po 0 ko, .bool false] n3.symm b
  clear s u ah ai
  refine hK.out _ _ a1 (fun hSn=>?_)
  clear hK K hSn
  obtain⟨w4,aJ⟩: ∃X,setL w3 a3 0 [.slice po 0 ko, .bool false]=X:=⟨_,rfl⟩
  rw[aJ] at g5 g6 g7 a1 l B C ⊢
  clear aJ
  simp only[setA,List.setIfInBounds_toArray,List.set_cons_succ,List.set_cons_zero] at l
  clear f5 f6 f7 f x9 b
  have f5:=g5
  have f6:=g6
  have f7:=g7
  have f:=l
  have x9:=B
  have b:=C
  clear g5 g6 g7 l B C
  refine rdy 15 rfl fun K hK=>?_
  go_simp
  refine hK.out _ _ a1 (fun hSn=>?_)
  clear hK K hSn
  refine wpAnyH_done (by kernel_rfl) ?_ _
  have rs:=hid (X3s (K:=N0) f5 (fun _ _ h=>h.elim))
  have ri:=hid (X0Q (K:=N0) f6 (fun _ _ h=>h.elim))
  have ro:=hid (X0Q (K:=N0) f7 (fun _ _ h=>h.elim))
  replace x9:=hid x9
  replace b:=hid b
  replace f:=hid f
  replace hT:=hid (tabs_next a6.out a1)
  have bq:=hid (show Below w.heap.size w w4 from(show Below w.heap.size w W.drew from ad.drew).trans (a1.mono aG))
  clear f5 f6 f7 aD a9 aa a1 a6 aV D ae ac ad aG
  have L:=X00 x9.out 0 _ rfl
  have M:=X00 x9.out 1 _ rfl
  have N:=X00 x9.out 2 _ rfl
  have O:=X00 x9.out 3 _ rfl
  have P:=X00 x9.out 4 _ rfl
  have R:=X00 x9.out 5 _ rfl
  have S:=X00 x9.out 6 _ rfl
  have T:=X00 x9.out 7 _ rfl
  have U:=X00 x9.out 8 _ rfl
  have a0:=X00 x9.out 9 _ rfl
  have x:=X00 x9.out 10 _ rfl
  have z:=X00 x9.out 11 _ rfl
  have n:=X00 b.out 0 _ rfl
  have q:=X00 b.out 1 _ rfl
  have s:=X00 f.out 0 _ rfl
  have u:=X00 f.out 1 _ rfl
  go_wp2_with fail
  refine(G.out _ _ _ w4 hT.out rs.out ri.out ro.out).mono ?_
  rintro e w5 ⟨va,vb,vc,rfl,sa,sb,sc,q5⟩
  clear L M N O P R S T U a0 x z n q s u
  replace hT:=hid (tabs_next hT.out q5)
  replace rs:=hid (X08 rs.out q5)
  replace ri:=hid (X01 ri.out q5)
  replace ro:=hid (X01 ro.out q5)
  replace x9:=hid (X02 x9.out q5)
  replace b:=hid (X02 b.out q5)
  replace f:=hid (X02 f.out q5)
  replace bq:=hid (X05 bq.out q5)
  obtain⟨qn,dn,qg,dg,qc,dc,qp,dp,rfl⟩:=X2a sa
  obtain⟨qi,di,rfl,_⟩:=X0m sb
  obtain⟨qo,dq,rfl,_⟩:=X0m sc
  unfold X34 Stg.ex2 at sa ⊢
  simp only[List.length_cons,List.length_nil,Nat.zero_add,Nat.reduceAdd] at sa sb sc ⊢
  replace sa:=hid sa
  clear sb sc
  clear q5
  replace hT:=hid (tabs_next hT.out (X04 w5 (.cells #[.int .i64 1, .string ⟨#[]⟩, .slice qn 0 dn, .slice qg 0 dg, .bool false, .int .i64 0, .bool false, .bool false, .slice qc 0 dc, .slice qp 1 dp, .bool true, .bool false] 48)))
  replace rs:=hid (X08 rs.out (X04 w5 (.cells #[.int .i64 1, .string ⟨#[]⟩, .slice qn 0 dn, .slice qg 0 dg, .bool false, .int .i64 0, .bool false, .bool false, .slice qc 0 dc, .slice qp 1 dp, .bool true, .bool false] 48)))
  replace ri:=hid (X01 ri.out (X04 w5 (.cells #[.int .i64 1, .string ⟨#[]⟩, .slice qn 0 dn, .slice qg 0 dg, .bool false, .int .i64 0, .bool false, .bool false, .slice qc 0 dc, .slice qp 1 dp, .bool true, .bool false] 48)))
  replace ro:=hid (X01 ro.out (X04 w5 (.cells #[.int .i64 1, .string ⟨#[]⟩, .slice qn 0 dn, .slice qg 0 dg, .bool false, .int .i64 0, .bool false, .bool false, .slice qc 0 dc, .slice qp 1 dp, .bool true, .bool false] 48)))
  replace x9:=hid (X02 x9.out (X04 w5 (.cells #[.int .i64 1, .string ⟨#[]⟩, .slice qn 0 dn, .slice qg 0 dg, .bool false, .int .i64 0, .bool false, .bool false, .slice qc 0 dc, .slice qp 1 dp, .bool true, .bool false] 48)))
  replace b:=hid (X02 b.out (X04 w5 (.cells #[.int .i64 1, .string ⟨#[]⟩, .slice qn 0 dn, .slice qg 0 dg, .bool false, .int .i64 0, .bool false, .bool false, .slice qc 0 dc, .slice qp 1 dp, .bool true, .bool false] 48)))
  replace f:=hid (X02 f.out (X04 w5 (.cells #[.int .i64 1, .string ⟨#[]⟩, .slice qn 0 dn, .slice qg 0 dg, .bool false, .int .i64 0, .bool false, .bool false, .slice qc 0 dc, .slice qp 1 dp, .bool true, .bool false] 48)))
  replace sa:=hid (X08 sa.out (X04 w5 (.cells #[.int .i64 1, .string ⟨#[]⟩, .slice qn 0 dn, .slice qg 0 dg, .bool false, .int .i64 0, .bool false, .bool false, .slice qc 0 dc, .slice qp 1 dp, .bool true, .bool false] 48)))
  replace bq:=hid (X05 bq.out (X04 w5 (.cells #[.int .i64 1, .string ⟨#[]⟩, .slice qn 0 dn, .slice qg 0 dg, .bool false, .int .i64 0, .bool false, .bool false, .slice qc 0 dc, .slice qp 1 dp, .bool true, .bool false] 48)))
  have u9:=hid (X0g w5 #[.int .i64 1, .string ⟨#[]⟩, .slice qn 0 dn, .slice qg 0 dg, .bool false, .int .i64 0, .bool false, .bool false, .slice qc 0 dc, .slice qp 1 dp, .bool true, .bool false] 48)
  replace hT:=hid (tabs_next hT.out (X04 (w5.alloc (.cells #[.int .i64 1, .string ⟨#[]⟩, .slice qn 0 dn, .slice qg 0 dg, .bool false, .int .i64 0, .bool false, .bool false, .slice qc 0 dc, .slice qp 1 dp, .bool true, .bool false] 48)) (.cells #[.slice qi 0 di, .bool true] 49)))
  replace rs:=hid (X08 rs.out (X04 (w5.alloc (.cells #[.int .i64 1, .string ⟨#[]⟩, .slice qn 0 dn, .slice qg 0 dg, .bool false, .int .i64 0, .bool false, .bool false, .slice qc 0 dc, .slice qp 1 dp, .bool true, .bool false] 48)) (.cells #[.slice qi 0 di, .bool true] 49)))
  replace ri:=hid (X01 ri.out (X04 (w5.alloc (.cells #[.int .i64 1, .string ⟨#[]⟩, .slice qn 0 dn, .slice qg 0 dg, .bool false, .int .i64 0, .bool false, .bool false, .slice qc 0 dc, .slice qp 1 dp, .bool true, .bool false] 48)) (.cells #[.slice qi 0 di, .bool true] 49)))
  replace ro:=hid (X01 ro.out (X04 (w5.alloc (.cells #[.int .i64 1, .string ⟨#[]⟩, .slice qn 0 dn, .slice qg 0 dg, .bool false, .int .i64 0, .bool false, .bool false, .slice qc 0 dc, .slice qp 1 dp, .bool true, .bool false] 48)) (.cells #[.slice qi 0 di, .bool true] 49)))
  replace x9:=hid (X02 x9.out (X04 (w5.alloc (.cells #[.int .i64 1, .string ⟨#[]⟩, .slice qn 0 dn, .slice qg 0 dg, .bool false, .int .i64 0, .bool false, .bool false, .slice qc 0 dc, .slice qp 1 dp, .bool true, .bool false] 48)) (.cells #[.slice qi 0 di, .bool true] 49)))
  replace b:=hid (X02 b.out (X04 (w5.alloc (.cells #[.int .i64 1, .string ⟨#[]⟩, .slice qn 0 dn, .slice qg 0 dg, .bool false, .int .i64 0, .bool false, .bool false, .slice qc 0 dc, .slice qp 1 dp, .bool true, .bool false] 48)) (.cells #[.slice qi 0 di, .bool true] 49)))
  replace f:=hid (X02 f.out (X04 (w5.alloc (.cells #[.int .i64 1, .string ⟨#[]⟩, .slice qn 0 dn, .slice qg 0 dg, .bool false, .int .i64 0, .bool false, .bool false, .slice qc 0 dc, .slice qp 1 dp, .bool true, .bool false] 48)) (.cells #[.slice qi 0 di, .bool true] 49)))
  replace sa:=hid (X08 sa.out (X04 (w5.alloc (.cells #[.int .i64 1, .string ⟨#[]⟩, .slice qn 0 dn, .slice qg 0 dg, .bool false, .int .i64 0, .bool false, .bool false, .slice qc 0 dc, .slice qp 1 dp, .bool true, .bool false] 48)) (.cells #[.slice qi 0 di, .bool true] 49)))
  replace u9:=hid (X02 u9.out (X04 (w5.alloc (.cells #[.int .i64 1, .string ⟨#[]⟩, .slice qn 0 dn, .slice qg 0 dg, .bool false, .int .i64 0, .bool false, .bool false, .slice qc 0 dc, .slice qp 1 dp, .bool true, .bool false] 48)) (.cells #[.slice qi 0 di, .bool true] 49)))
  replace bq:=hid (X05 bq.out (X04 (w5.alloc (.cells #[.int .i64 1, .string ⟨#[]⟩, .slice qn 0 dn, .slice qg 0 dg, .bool false, .int .i64 0, .bool false, .bool false, .slice qc 0 dc, .slice qp 1 dp, .bool true, .bool false] 48)) (.cells #[.slice qi 0 di, .bool true] 49)))
  replace hT:=hid (tabs_next hT.out (X04 ((w5.alloc (.cells #[.int .i64 1, .string ⟨#[]⟩, .slice qn 0 dn, .slice qg 0 dg, .bool false, .int .i64 0, .bool false, .bool false, .slice qc 0 dc, .slice qp 1 dp, .bool true, .bool false] 48)).alloc (.cells #[.slice qi 0 di, .bool true] 49)) (.cells #[.slice qo 0 dq, .bool false] 49)))
  replace rs:=hid (X08 rs.out (X04 ((w5.alloc (.cells #[.int .i64 1, .string ⟨#[]⟩, .slice qn 0 dn, .slice qg 0 dg, .bool false, .int .i64 0, .bool false, .bool false, .slice qc 0 dc, .slice qp 1 dp, .bool true, .bool false] 48)).alloc (.cells #[.slice qi 0 di, .bool true] 49)) (.cells #[.slice qo 0 dq, .bool false] 49)))
  replace ri:=hid (X01 ri.out (X04 ((w5.alloc (.cells #[.int .i64 1, .string ⟨#[]⟩, .slice qn 0 dn, .slice qg 0 dg, .bool false, .int .i64 0, .bool false, .bool false, .slice qc 0 dc, .slice qp 1 dp, .bool true, .bool false] 48)).alloc (.cells #[.slice qi 0 di, .bool true] 49)) (.cells #[.slice qo 0 dq, .bool false] 49)))
  replace ro:=hid (X01 ro.out (X04 ((w5.alloc (.cells #[.int .i64 1, .string ⟨#[]⟩, .slice qn 0 dn, .slice qg 0 dg, .bool false, .int .i64 0, .bool false, .bool false, .slice qc 0 dc, .slice qp 1 dp, .bool true, .bool false] 48)).alloc (.cells #[.slice qi 0 di, .bool true] 49)) (.cells #[.slice qo 0 dq, .bool false] 49)))
  replace x9:=hid (X02 x9.out (X04 ((w5.alloc (.cells #[.int .i64 1, .string ⟨#[]⟩, .slice qn 0 dn, .slice qg 0 dg, .bool false, .int .i64 0, .bool false, .bool false, .slice qc 0 dc, .slice qp 1 dp, .bool true, .bool false] 48)).alloc (.cells #[.slice qi 0 di, .bool true] 49)) (.cells #[.slice qo 0 dq, .bool false] 49)))
  replace b:=hid (X02 b.out (X04 ((w5.alloc (.cells #[.int .i64 1, .string ⟨#[]⟩, .slice qn 0 dn, .slice qg 0 dg, .bool false, .int .i64 0, .bool false, .bool false, .slice qc 0 dc, .slice qp 1 dp, .bool true, .bool false] 48)).alloc (.cells #[.slice qi 0 di, .bool true] 49)) (.cells #[.slice qo 0 dq, .bool false] 49)))
  replace f:=hid (X02 f.out (X04 ((w5.alloc (.cells #[.int .i64 1, .string ⟨#[]⟩, .slice qn 0 dn, .slice qg 0 dg, .bool false, .int .i64 0, .bool false, .bool false, .slice qc 0 dc, .slice qp 1 dp, .bool true, .bool false] 48)).alloc (.cells #[.slice qi 0 di, .bool true] 49)) (.cells #[.slice qo 0 dq, .bool false] 49)))
  replace sa:=hid (X08 sa.out (X04 ((w5.alloc (.cells #[.int .i64 1, .string ⟨#[]⟩, .slice qn 0 dn, .slice qg 0 dg, .bool false, .int .i64 0, .bool false, .bool false, .slice qc 0 dc, .slice qp 1 dp, .bool true, .bool false] 48)).alloc (.cells #[.slice qi 0 di, .bool true] 49)) (.cells #[.slice qo 0 dq, .bool false] 49)))
  replace u9:=hid (X02 u9.out (X04 ((w5.alloc (.cells #[.int .i64 1, .string ⟨#[]⟩, .slice qn 0 dn, .slice qg 0 dg, .bool false, .int .i64 0, .bool false, .bool false, .slice qc 0 dc, .slice qp 1 dp, .bool true, .bool false] 48)).alloc (.cells #[.slice qi 0 di, .bool true] 49)) (.cells #[.slice qo 0 dq, .bool false] 49)))
  replace bq:=hid (X05 bq.out (X04 ((w5.alloc (.cells #[.int .i64 1, .string ⟨#[]⟩, .slice qn 0 dn, .slice qg 0 dg, .bool false, .int .i64 0, .bool false, .bool false, .slice qc 0 dc, .slice qp 1 dp, .bool true, .bool false] 48)).alloc (.cells #[.slice qi 0 di, .bool true] 49)) (.cells #[.slice qo 0 dq, .bool false] 49)))
  have aL:=X00 u9.out 0 _ rfl
  have aM:=X00 u9.out 1 _ rfl
  have aN:=X00 u9.out 2 _ rfl
  have aO:=X00 u9.out 3 _ rfl
  have aP:=X00 u9.out 4 _ rfl
  have aQ:=X00 u9.out 5 _ rfl
  have aR:=X00 u9.out 6 _ rfl
  have aS:=X00 u9.out 7 _ rfl
  have aT:=X00 u9.out 8 _ rfl
  have am:=X00 u9.out 9 _ rfl
  have a7:=X00 u9.out 10 _ rfl
  have aq:=X00 u9.out 11 _ rfl
  have n:=X00 b.out 0 _ rfl
  have q:=X00 b.out 1 _ rfl
  have s:=X00 f.out 0 _ rfl
  have u:=X00 f.out 1 _ rfl
  go_wp2_with fail
  refine(I.out _ _ _ (((w5.alloc (.cells #[.int .i64 1, .string ⟨#[]⟩, .slice qn 0 dn, .slice qg 0 dg, .bool false, .int .i64 0, .bool false, .bool false, .slice qc 0 dc, .slice qp 1 dp, .bool true, .bool false] 48)).alloc (.cells #[.slice qi 0 di, .bool true] 49)).alloc (.cells #[.slice qo 0 dq, .bool false] 49)) hT.out sa.out ri.out ro.out).mono ?_
  rintro e w6 ⟨vd,ve,vf,rfl,sd,se,sf,q6⟩
  clear aL aM aN aO aP aQ aR aS aT am a7 aq n q s u
  replace hT:=hid (tabs_next hT.out q6)
  replace rs:=hid (X08 rs.out q6)
  replace ri:=hid (X01 ri.out q6)
  replace ro:=hid (X01 ro.out q6)
  replace x9:=hid (X02 x9.out q6)
  replace b:=hid (X02 b.out q6)
  replace f:=hid (X02 f.out q6)
  replace sa:=hid (X08 sa.out q6)
  replace u9:=hid (X02 u9.out q6)
  replace bq:=hid (X05 bq.out q6)
  obtain⟨fn,hn,fg,hg,fc,hc,fp,hp,rfl⟩:=X2a sd
  obtain⟨fi,hi,rfl,_⟩:=X0m se
  obtain⟨b1,o1,ca,b2,o2,cb,rfl,k1,k2⟩:=XAT sf
  unfold X34 Stg.ex3 at sd ⊢
  simp only[List.length_cons,List.length_nil,Nat.zero_add,Nat.reduceAdd] at sd se sf ⊢
  replace k1:=hid k1
  replace k2:=hid k2
  clear sd se sf
  clear q6
  replace hT:=hid (tabs_next hT.out (X04 w6 (.cells #[.int .i64 1, .string ⟨#[]⟩, .slice fn 0 hn, .slice fg 0 hg, .bool false, .int .i64 0, .bool false, .bool false, .slice fc 0 hc, .slice fp 0 hp, .bool true, .bool false] 48)))
  replace rs:=hid (X08 rs.out (X04 w6 (.cells #[.int .i64 1, .string ⟨#[]⟩, .slice fn 0 hn, .slice fg 0 hg, .bool false, .int .i64 0, .bool false, .bool false, .slice fc 0 hc, .slice fp 0 hp, .bool true, .bool false] 48)))
  replace ri:=hid (X01 ri.out (X04 w6 (.cells #[.int .i64 1, .string ⟨#[]⟩, .slice fn 0 hn, .slice fg 0 hg, .bool false, .int .i64 0, .bool false, .bool false, .slice fc 0 hc, .slice fp 0 hp, .bool true, .bool false] 48)))
  replace ro:=hid (X01 ro.out (X04 w6 (.cells #[.int .i64 1, .string ⟨#[]⟩, .slice fn 0 hn, .slice fg 0 hg, .bool false, .int .i64 0, .bool false, .bool false, .slice fc 0 hc, .slice fp 0 hp, .bool true, .bool false] 48)))
  replace x9:=hid (X02 x9.out (X04 w6 (.cells #[.int .i64 1, .string ⟨#[]⟩, .slice fn 0 hn, .slice fg 0 hg, .bool false, .int .i64 0, .bool false, .bool false, .slice fc 0 hc, .slice fp 0 hp, .bool true, .bool false] 48)))
  replace b:=hid (X02 b.out (X04 w6 (.cells #[.int .i64 1, .string ⟨#[]⟩, .slice fn 0 hn, .slice fg 0 hg, .bool false, .int .i64 0, .bool false, .bool false, .slice fc 0 hc, .slice fp 0 hp, .bool true, .bool false] 48)))
  replace f:=hid (X02 f.out (X04 w6 (.cells #[.int .i64 1, .string ⟨#[]⟩, .slice fn 0 hn, .slice fg 0 hg, .bool false, .int .i64 0, .bool false, .bool false, .slice fc 0 hc, .slice fp 0 hp, .bool true, .bool false] 48)))
  replace sa:=hid (X08 sa.out (X04 w6 (.cells #[.int .i64 1, .string ⟨#[]⟩, .slice fn 0 hn, .slice fg 0 hg, .bool false, .int .i64 0, .bool false, .bool false, .slice fc 0 hc, .slice fp 0 hp, .bool true, .bool false] 48)))
  replace u9:=hid (X02 u9.out (X04 w6 (.cells #[.int .i64 1, .string ⟨#[]⟩, .slice fn 0 hn, .slice fg 0 hg, .bool false, .int .i64 0, .bool false, .bool false, .slice fc 0 hc, .slice fp 0 hp, .bool true, .bool false] 48)))
  replace k1:=hid (X0f k1.out (X04 w6 (.cells #[.int .i64 1, .string ⟨#[]⟩, .slice fn 0 hn, .slice fg 0 hg, .bool false, .int .i64 0, .bool false, .bool false, .slice fc 0 hc, .slice fp 0 hp, .bool true, .bool false] 48)))
  replace k2:=hid (X0f k2.out (X04 w6 (.cells #[.int .i64 1, .string ⟨#[]⟩, .slice fn 0 hn, .slice fg 0 hg, .bool false, .int .i64 0, .bool false, .bool false, .slice fc 0 hc, .slice fp 0 hp, .bool true, .bool false] 48)))
  replace bq:=hid (X05 bq.out (X04 w6 (.cells #[.int .i64 1, .string ⟨#[]⟩, .slice fn 0 hn, .slice fg 0 hg, .bool false, .int .i64 0, .bool false, .bool false, .slice fc 0 hc, .slice fp 0 hp, .bool true, .bool false] 48)))
  replace hT:=hid (tabs_next hT.out (X04 (w6.alloc (.cells #[.int .i64 1, .string ⟨#[]⟩, .slice fn 0 hn, .slice fg 0 hg, .bool false, .int .i64 0, .bool false, .bool false, .slice fc 0 hc, .slice fp 0 hp, .bool true, .bool false] 48)) (.cells #[.slice fi 0 hi, .bool true] 49)))
  replace rs:=hid (X08 rs.out (X04 (w6.alloc (.cells #[.int .i64 1, .string ⟨#[]⟩, .slice fn 0 hn, .slice fg 0 hg, .bool false, .int .i64 0, .bool false, .bool false, .slice fc 0 hc, .slice fp 0 hp, .bool true, .bool false] 48)) (.cells #[.slice fi 0 hi, .bool true] 49)))
  replace ri:=hid (X01 ri.out (X04 (w6.alloc (.cells #[.int .i64 1, .string ⟨#[]⟩, .slice fn 0 hn, .slice fg 0 hg, .bool false, .int .i64 0, .bool false, .bool false, .slice fc 0 hc, .slice fp 0 hp, .bool true, .bool false] 48)) (.cells #[.slice fi 0 hi, .bool true] 49)))
  replace ro:=hid (X01 ro.out (X04 (w6.alloc (.cells #[.int .i64 1, .string ⟨#[]⟩, .slice fn 0 hn, .slice fg 0 hg, .bool false, .int .i64 0, .bool false, .bool false, .slice fc 0 hc, .slice fp 0 hp, .bool true, .bool false] 48)) (.cells #[.slice fi 0 hi, .bool true] 49)))
  replace x9:=hid (X02 x9.out (X04 (w6.alloc (.cells #[.int .i64 1, .string ⟨#[]⟩, .slice fn 0 hn, .slice fg 0 hg, .bool false, .int .i64 0, .bool false, .bool false, .slice fc 0 hc, .slice fp 0 hp, .bool true, .bool false] 48)) (.cells #[.slice fi 0 hi, .bool true] 49)))
  replace b:=hid (X02 b.out (X04 (w6.alloc (.cells #[.int .i64 1, .string ⟨#[]⟩, .slice fn 0 hn, .slice fg 0 hg, .bool false, .int .i64 0, .bool false, .bool false, .slice fc 0 hc, .slice fp 0 hp, .bool true, .bool false] 48)) (.cells #[.slice fi 0 hi, .bool true] 49)))
  replace f:=hid (X02 f.out (X04 (w6.alloc (.cells #[.int .i64 1, .string ⟨#[]⟩, .slice fn 0 hn, .slice fg 0 hg, .bool false, .int .i64 0, .bool false, .bool false, .slice fc 0 hc, .slice fp 0 hp, .bool true, .bool false] 48)) (.cells #[.slice fi 0 hi, .bool true] 49)))
  replace sa:=hid (X08 sa.out (X04 (w6.alloc (.cells #[.int .i64 1, .string ⟨#[]⟩, .slice fn 0 hn, .slice fg 0 hg, .bool false, .int .i64 0, .bool false, .bool false, .slice fc 0 hc, .slice fp 0 hp, .bool true, .bool false] 48)) (.cells #[.slice fi 0 hi, .bool true] 49)))
  replace u9:=hid (X02 u9.out (X04 (w6.alloc (.cells #[.int .i64 1, .string ⟨#[]⟩, .slice fn 0 hn, .slice fg 0 hg, .bool false, .int .i64 0, .bool false, .bool false, .slice fc 0 hc, .slice fp 0 hp, .bool true, .bool false] 48)) (.cells #[.slice fi 0 hi, .bool true] 49)))
  replace k1:=hid (X0f k1.out (X04 (w6.alloc (.cells #[.int .i64 1, .string ⟨#[]⟩, .slice fn 0 hn, .slice fg 0 hg, .bool false, .int .i64 0, .bool false, .bool false, .slice fc 0 hc, .slice fp 0 hp, .bool true, .bool false] 48)) (.cells #[.slice fi 0 hi, .bool true] 49)))
  replace k2:=hid (X0f k2.out (X04 (w6.alloc (.cells #[.int .i64 1, .string ⟨#[]⟩, .slice fn 0 hn, .slice fg 0 hg, .bool false, .int .i64 0, .bool false, .bool false, .slice fc 0 hc, .slice fp 0 hp, .bool true, .bool false] 48)) (.cells #[.slice fi 0 hi, .bool true] 49)))
  replace bq:=hid (X05 bq.out (X04 (w6.alloc (.cells #[.int .i64 1, .string ⟨#[]⟩, .slice fn 0 hn, .slice fg 0 hg, .bool false, .int .i64 0, .bool false, .bool false, .slice fc 0 hc, .slice fp 0 hp, .bool true, .bool false] 48)) (.cells #[.slice fi 0 hi, .bool true] 49)))
  replace hT:=hid (tabs_next hT.out (X04 ((w6.alloc (.cells #[.int .i64 1, .string ⟨#[]⟩, .slice fn 0 hn, .slice fg 0 hg, .bool false, .int .i64 0, .bool false, .bool false, .slice fc 0 hc, .slice fp 0 hp, .bool true, .bool false] 48)).alloc (.cells #[.slice fi 0 hi, .bool true] 49)) (.cells #[.slice (some ⟨b1,o1,none⟩) 1 ca, .bool false] 49)))
  replace rs:=hid (X08 rs.out (X04 ((w6.alloc (.cells #[.int .i64 1, .string ⟨#[]⟩, .slice fn 0 hn, .slice fg 0 hg, .bool false, .int .i64 0, .bool false, .bool false, .slice fc 0 hc, .slice fp 0 hp, .bool true, .bool false] 48)).alloc (.cells #[.slice fi 0 hi, .bool true] 49)) (.cells #[.slice (some ⟨b1,o1,none⟩) 1 ca, .bool false] 49)))
  replace ri:=hid (X01 ri.out (X04 ((w6.alloc (.cells #[.int .i64 1, .string ⟨#[]⟩, .slice fn 0 hn, .slice fg 0 hg, .bool false, .int .i64 0, .bool false, .bool false, .slice fc 0 hc, .slice fp 0 hp, .bool true, .bool false] 48)).alloc (.cells #[.slice fi 0 hi, .bool true] 49)) (.cells #[.slice (some ⟨b1,o1,none⟩) 1 ca, .bool false] 49)))
  replace ro:=hid (X01 ro.out (X04 ((w6.alloc (.cells #[.int .i64 1, .string ⟨#[]⟩, .slice fn 0 hn, .slice fg 0 hg, .bool false, .int .i64 0, .bool false, .bool false, .slice fc 0 hc, .slice fp 0 hp, .bool true, .bool false] 48)).alloc (.cells #[.slice fi 0 hi, .bool true] 49)) (.cells #[.slice (some ⟨b1,o1,none⟩) 1 ca, .bool false] 49)))
  replace x9:=hid (X02 x9.out (X04 ((w6.alloc (.cells #[.int .i64 1, .string ⟨#[]⟩, .slice fn 0 hn, .slice fg 0 hg, .bool false, .int .i64 0, .bool false, .bool false, .slice fc 0 hc, .slice fp 0 hp, .bool true, .bool false] 48)).alloc (.cells #[.slice fi 0 hi, .bool true] 49)) (.cells #[.slice (some ⟨b1,o1,none⟩) 1 ca, .bool false] 49)))
  replace b:=hid (X02 b.out (X04 ((w6.alloc (.cells #[.int .i64 1, .string ⟨#[]⟩, .slice fn 0 hn, .slice fg 0 hg, .bool false, .int .i64 0, .bool false, .bool false, .slice fc 0 hc, .slice fp 0 hp, .bool true, .bool false] 48)).alloc (.cells #[.slice fi 0 hi, .bool true] 49)) (.cells #[.slice (some ⟨b1,o1,none⟩) 1 ca, .bool false] 49)))
  replace f:=hid (X02 f.out (X04 ((w6.alloc (.cells #[.int .i64 1, .string ⟨#[]⟩, .slice fn 0 hn, .slice fg 0 hg, .bool false, .int .i64 0, .bool false, .bool false, .slice fc 0 hc, .slice fp 0 hp, .bool true, .bool false] 48)).alloc (.cells #[.slice fi 0 hi, .bool true] 49)) (.cells #[.slice (some ⟨b1,o1,none⟩) 1 ca, .bool false] 49)))
  replace sa:=hid (X08 sa.out (X04 ((w6.alloc (.cells #[.int .i64 1, .string ⟨#[]⟩, .slice fn 0 hn, .slice fg 0 hg, .bool false, .int .i64 0, .bool false, .bool false, .slice fc 0 hc, .slice fp 0 hp, .bool true, .bool false] 48)).alloc (.cells #[.slice fi 0 hi, .bool true] 49)) (.cells #[.slice (some ⟨b1,o1,none⟩) 1 ca, .bool false] 49)))
  replace u9:=hid (X02 u9.out (X04 ((w6.alloc (.cells #[.int .i64 1, .string ⟨#[]⟩, .slice fn 0 hn, .slice fg 0 hg, .bool false, .int .i64 0, .bool false, .bool false, .slice fc 0 hc, .slice fp 0 hp, .bool true, .bool false] 48)).alloc (.cells #[.slice fi 0 hi, .bool true] 49)) (.cells #[.slice (some ⟨b1,o1,none⟩) 1 ca, .bool false] 49)))
  replace k1:=hid (X0f k1.out (X04 ((w6.alloc (.cells #[.int .i64 1, .string ⟨#[]⟩, .slice fn 0 hn, .slice fg 0 hg, .bool false, .int .i64 0, .bool false, .bool false, .slice fc 0 hc, .slice fp 0 hp, .bool true, .bool false] 48)).alloc (.cells #[.slice fi 0 hi, .bool true] 49)) (.cells #[.slice (some ⟨b1,o1,none⟩) 1 ca, .bool false] 49)))
  replace k2:=hid (X0f k2.out (X04 ((w6.alloc (.cells #[.int .i64 1, .string ⟨#[]⟩, .slice fn 0 hn, .slice fg 0 hg, .bool false, .int .i64 0, .bool false, .bool false, .slice fc 0 hc, .slice fp 0 hp, .bool true, .bool false] 48)).alloc (.cells #[.slice fi 0 hi, .bool true] 49)) (.cells #[.slice (some ⟨b1,o1,none⟩) 1 ca, .bool false] 49)))
  replace bq:=hid (X05 bq.out (X04 ((w6.alloc (.cells #[.int .i64 1, .string ⟨#[]⟩, .slice fn 0 hn, .slice fg 0 hg, .bool false, .int .i64 0, .bool false, .bool false, .slice fc 0 hc, .slice fp 0 hp, .bool true, .bool false] 48)).alloc (.cells #[.slice fi 0 hi, .bool true] 49)) (.cells #[.slice (some ⟨b1,o1,none⟩) 1 ca, .bool false] 49)))
  have al:=hid (X2Y (w:=((w6.alloc (.cells #[.int .i64 1, .string ⟨#[]⟩, .slice fn 0 hn, .slice fg 0 hg, .bool false, .int .i64 0, .bool false, .bool false, .slice fc 0 hc, .slice fp 0 hp, .bool true, .bool false] 48)).alloc (.cells #[.slice fi 0 hi, .bool true] 49))) (k:=(w6.heap.size+1+1)) (by simp) #[.slice (some ⟨b1,o1,none⟩) 1 ca, .bool false] 49)
  have L:=X00 x9.out 0 _ rfl
  have M:=X00 x9.out 1 _ rfl
  have N:=X00 x9.out 2 _ rfl
  have O:=X00 x9.out 3 _ rfl
  have P:=X00 x9.out 4 _ rfl
  have R:=X00 x9.out 5 _ rfl
  have S:=X00 x9.out 6 _ rfl
  have T:=X00 x9.out 7 _ rfl
  have U:=X00 x9.out 8 _ rfl
  have a0:=X00 x9.out 9 _ rfl
  have x:=X00 x9.out 10 _ rfl
  have z:=X00 x9.out 11 _ rfl
  go_wp2_with fail
  refine(E.out _ (((w6.alloc (.cells #[.int .i64 1, .string ⟨#[]⟩, .slice fn 0 hn, .slice fg 0 hg, .bool false, .int .i64 0, .bool false, .bool false, .slice fc 0 hc, .slice fp 0 hp, .bool true, .bool false] 48)).alloc (.cells #[.slice fi 0 hi, .bool true] 49)).alloc (.cells #[.slice (some ⟨b1,o1,none⟩) 1 ca, .bool false] 49)) hT.out rs.out).mono ?_
  rintro e w7 ⟨rfl,q7⟩
  clear L M N O P R S T U a0 x z
  replace hT:=hid (tabs_next hT.out q7)
  replace rs:=hid (X08 rs.out q7)
  replace ri:=hid (X01 ri.out q7)
  replace ro:=hid (X01 ro.out q7)
  replace x9:=hid (X02 x9.out q7)
  replace b:=hid (X02 b.out q7)
  replace f:=hid (X02 f.out q7)
  replace sa:=hid (X08 sa.out q7)
  replace u9:=hid (X02 u9.out q7)
  replace k1:=hid (X0f k1.out q7)
  replace k2:=hid (X0f k2.out q7)
  replace al:=hid (X02 al.out q7)
  replace bq:=hid (X05 bq.out q7)
  clear q7
  have am:=X00 u9.out 9 _ rfl
  have a7:=X00 u9.out 10 _ rfl
  have aX:=X00 al.out 0 _ rfl
  have aY:=X00 al.out 1 _ rfl
  have b3:=k1.out
  have b4:=k2.out
  go_wp2_with fail
  go_ret
  exact⟨rfl,bq.out⟩
end Go.Proofs.YtkofnpkopbnocaaGreatDoor
