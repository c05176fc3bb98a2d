import Derived.Test.YtkofnpkopbnocaaGreatDoorBasP
import Derived.Maps.Own
import Derived.Maps.OwnOps
import Derived.Maps.OwnSet
import Derived.Maps.Views
import Derived.OneCell
import Derived.Test.YtkofnpkopbnocaaGreatDoorMatP
import Derived.Carry
import Derived.KernelRfl
import Derived.Deep.LoopGhost
import Derived.Deep.DeepCutAuto
set_option linter.unusedSimpArgs false
set_option linter.unusedVariables false
set_option maxRecDepth 100000
set_option maxHeartbeats 1600000
namespace Go.Proofs.YtkofnpkopbnocaaGreatDoor
open Go Go.RowKit Go.Lib Go.Maps
def Xb4(T:TypeId)(q r:IntKind)(s:Nat):Nat→List Oper→Option (List (Int × Int))
 | 0,_=>some []
 |
  n+1,o::rest=>
  match o.guard,o.dst,o.op with
  |
   none,none, .insert t (.tmp s') (.const (.int q' k)) (.const (.int r' v))=>
   if t=T∧s'=s∧q'=q∧r'=r∧(Lit.int q k).wf=true∧(Lit.int r v).wf=true then (Xb4 T q r s n rest).map ((k,v):: ·) else none
  | _,_,_=>none
 | _+1,[]=>none
abbrev XCn(q r:IntKind)(D:DataW Unit)(rows:List (Int × Int)):DataW Unit:=rows.foldl (fun D p=>D.put (.int q p.1) (.lit (.int r p.2))) D
theorem Xjq{P:Program}{ops:Array Oper}{Q:Exit→Act→World→Prop}{T k e:TypeId}{q r:IntKind}{s:Nat}(hk:P.underlying k=some (.int q))(he:P.underlying e=some (.int r))(ht:P.underlying T=some (.map k e)):
 ∀ (n:Nat) {l:List Oper} {rows:List (Int × Int)} {a:Act} {w:World} {b m:Nat} {D:DataW Unit},
 Xb4 T q r s n l=some rows→a.eval (.tmp s)= .map (some b)→w.ownsMap P k (plainElem P e) b m D→m+n≤maxLen→
 (∀w',w'.ownsMap P k (plainElem P e) b (m+n) (XCn q r D rows)→w.grownBy w' (some b)→wpList P ops Q (l.drop n) a w')→
 wpList P ops Q l a w
 |
  0,l,rows,a,w,b,m,D,h,_,ho,_,K=>by
  simp only[Xb4,Option.some.injEq] at h;subst h;exact K w ho ⟨rfl,rfl,rfl,Nat.le_refl _,fun _ _ _=>rfl⟩
 | n+1,[],rows,a,w,b,m,D,h,_,_,_,_=>by simp [Xb4] at h
 |
  n+1,⟨dst,op,ty,pos,aft,gd⟩::rest,rows,a,w,b,m,D,h,hs,ho,hm,K=>by
  unfold Xb4 at h
  split at h
  ·rename_i t s' q' kk r' v hg hd c;dsimp only at hg hd c;subst hg hd c
   split at h
   ·rename_i hc;obtain⟨rfl,rfl,rfl,rfl,i,j⟩:=hc;cases hr:Xb4 t q' r' s' n rest with
    | none=>rw[hr] at h;simp at h
    |
     some rs=>
     rw[hr] at h;simp only[Option.map_some,Option.some.injEq] at h;subst h;refine wpList_plain rfl fun K' f=>?_;obtain⟨w',d,r1,r2⟩:=ho.update (int_keyed hk) ht (by omega) (keyOf_int_mk hk i) (plainElem_int he j);unfold Oper.wp;have g:a.eval (.tmp s')= .map (some b):=hs;have e1:a.eval (.const (.int q' kk))= .int q' kk:=rfl;have e2:a.eval (.const (.int r' v))= .int r' v:=rfl;simp [execOp,g,e1,e2,d,Result.andThen];refine f _ _ ?_;refine Xjq hk he ht n (b:=b) (m:=m+1) hr hs r1 (by omega) fun w2 o2 g2=>?_;refine K w2 (by rw[show m+(n+1)=m+1+n by omega];exact o2) ?_;exact r2.trans g2
   ·cases h
  ·cases h
end Go.Proofs.YtkofnpkopbnocaaGreatDoor
namespace Go.Proofs.YtkofnpkopbnocaaGreatDoor.Cas
def Xr7:List (Int × Int):= [
 (65,97),(66,98),(67,99),(68,100),(69,101),(70,102),(71,103),(72,104),(73,105),(74,106),(75,107),(76,108),(77,109),(78,110),(79,111),(80,112),
 (81,113),(82,114),(83,115),(84,116),(85,117),(86,118),(87,119),(88,120),(89,121),(90,122),(181,956),(192,224),(193,225),(194,226),(195,227),
 (196,228),(197,229),(198,230),(199,231),(200,232),(201,233),(202,234),(203,235),(204,236),(205,237),(206,238),(207,239),(208,240),(209,241),
 (210,242),(211,243),(212,244),(213,245),(214,246),(216,248),(217,249),(218,250),(219,251),(220,252),(221,253),(222,254),(223,7536755)]
def X6h:List (Int × Int):= [
 (256,257),(258,259),(260,261),(262,263),(264,265),(266,267),(268,269),(270,271),(272,273),(274,275),(276,277),(278,279),(280,281),(282,283),
 (284,285),(286,287),(288,289),(290,291),(292,293),(294,295),(296,297),(298,299),(300,301),(302,303),(304,6882055),(306,307),(308,309),(310,311),
 (313,314),(315,316),(317,318),(319,320),(321,322),(323,324),(325,326),(327,328),(329,45875310),(330,331),(332,333),(334,335),(336,337),(338,339),
 (340,341),(342,343),(344,345),(346,347),(348,349),(350,351),(352,353),(354,355),(356,357),(358,359),(360,361),(362,363),(364,365),(366,367),
 (368,369),(370,371),(372,373),(374,375),(376,255),(377,378),(379,380),(381,382),(383,115),(416,417),(418,419),(420,421),(422,640),(423,424),
 (425,643),(428,429),(430,648),(431,432)]
def Xr8:List (Int × Int):= [
 (837,953),(902,940),(904,941),(905,942),(906,943),(908,972),(910,973),(911,974),(912,4093154689793),(913,945),(914,946),(915,947),(916,948),(917,949),
 (918,950),(919,951),(920,952),(921,953),(922,954),(923,955),(924,956),(925,957),(926,958),(927,959),(928,960),(929,961),(931,963),(932,964),
 (933,965),(934,966),(935,967),(936,968),(937,969),(938,970),(939,971),(944,4144694297345),(962,963)]
def X77:List (Int × Int):= [
 (7840,7841),(7842,7843),(7844,7845),(7846,7847),(7848,7849),(7850,7851),(7852,7853),(7854,7855),(7856,7857),(7858,7859),(7860,7861),(7862,7863),
 (7864,7865),(7866,7867),(7868,7869),(7870,7871),(7872,7873),(7874,7875),(7876,7877),(7878,7879),(7880,7881),(7882,7883),(7884,7885),(7886,7887),
 (7888,7889),(7890,7891),(7892,7893),(7894,7895),(7896,7897),(7898,7899),(7900,7901),(7902,7903),(7904,7905),(7906,7907),(7908,7909),(7910,7911),
 (7912,7913),(7914,7915),(7916,7917),(7918,7919),(7920,7921),(7922,7923),(7924,7925),(7926,7927),(7928,7929)]
def partT(r:Int):List (Int × Int):=
 if r / 256=0 then Xr7 else if r / 256=1 then X6h else if r / 256=3 then Xr8 else if r / 256=30 then X77 else []
def lookR(rows:List (Int × Int))(k:Int):Option Int:=(rows.reverse.find? fun p=>decide (p.1=k)).map (·.2)
def valsI(h:Int):List Int:= [h / 4294967296 % 65536,h / 65536 % 65536,h % 65536].filter fun x=>decide (0<x)
theorem Xr9: ∀p∈Xr7++X6h++Xr8++X77,(0≤p.2∧p.2<281474976710656)∧Lk.look T p.1=some (valsI p.2):=by decide+kernel
theorem XvT: ∀s∈T,(lookR (partT s.1) s.1).isSome=true:=by decide+kernel
theorem XmC{r:Int} : ∀p∈partT r,p∈Xr7++X6h++Xr8++X77:=by
 intro p hp;unfold partT at hp;simp only[List.mem_append]
 split at hp
 ·exact .inl (.inl (.inl hp))
 ·split at hp
  ·exact .inl (.inl (.inr hp))
  ·split at hp
   ·exact .inl (.inr hp)
   ·split at hp
    ·exact .inr hp
    ·cases hp
theorem XhX{rows:List (Int × Int)}{k h:Int}(e:lookR rows k=some h):(k,h)∈rows:=by
 unfold lookR at e;cases hf:rows.reverse.find? fun p=>decide (p.1=k) with
 | none=>rw[hf] at e;cases e
 |
  some p=>
  rw[hf] at e;simp only[Option.map_some,Option.some.injEq] at e;have h1:=List.mem_of_find?_eq_some hf;have h2:=List.find?_some hf;simp only[decide_eq_true_eq] at h2;rw[←h2,←e];exact List.mem_reverse.1 h1
theorem XBE(r:Int):foldI r=match lookR (partT r) r with | some h=>valsI h | none=> [r]:=by
 cases e:lookR (partT r) r with
 |
  some h=>
  have h1:=(Xr9 _ (XmC _ (XhX e))).2;unfold foldI;rw[h1];rfl
 |
  none=>
  rcases X3h r with h | h
  ·exact h
  ·have:=XvT _ h;rw[e] at this;cases this
theorem XE6{r h:Int}(e:lookR (partT r) r=some h):0≤h∧h<281474976710656:=(Xr9 _ (XmC _ (XhX e))).1
open Go Go.Maps
theorem Xra{rows:List (Int × Int)}{p:Int × Int}{k:Int} :lookR (rows++ [p]) k=if p.1=k then some p.2 else lookR rows k:=by
 unfold lookR;rw[List.reverse_append];simp only[List.reverse_cons,List.reverse_nil,List.nil_append,List.cons_append,List.find?_cons];by_cases h:p.1=k <;> simp [h]
theorem XhY(q r:IntKind)(rows:List (Int × Int)): ∀ (D:DataW Unit),IsMap D→IsMap (XCn q r D rows):=by
 induction rows with
 | nil=>intro D h;exact h
 | cons p t ih=>intro D h;exact ih _ (h.put _ _)
theorem XBF(q r:IntKind)(k:Int)(rows:List (Int × Int)):(∀z,(XCn q r (.map []) rows).atKey (.int q k) z=match lookR rows k with | some h=> .lit (.int r h) | none=>z)∧
 has (XCn q r (.map []) rows) (.int q k)=(lookR rows k).isSome:=by
 have c: ∀l:List (Int × Int),(∀z,(XCn q r (.map []) l.reverse).atKey (.int q k) z=match lookR l.reverse k with | some h=> .lit (.int r h) | none=>z)∧
  has (XCn q r (.map []) l.reverse) (.int q k)=(lookR l.reverse k).isSome:=by
  intro l
  induction l with
  | nil=>exact⟨fun z=>rfl,rfl⟩
  |
   cons p t ih=>
   have hm:=XhY q r t.reverse (.map []) isMap_empty;have hd:XCn q r (.map []) ((p::t).reverse)=(XCn q r (.map []) t.reverse).put (.int q p.1) (.lit (.int r p.2)):=by
    unfold XCn;rw[List.reverse_cons,List.foldl_append];rfl
   rw[hd,List.reverse_cons,Xra];by_cases hk:p.1=k
   ·subst hk;simp only[if_pos];have a:WideAt.IsKeyLit (.int q p.1):=by simp [WideAt.IsKeyLit]
    exact⟨fun z=>atKey_put_same hm a _ _,has_put_same hm a _⟩
   ·simp only[if_neg hk];have b:(Lit.int q k)≠(Lit.int q p.1):=by
     intro e;cases e;exact hk rfl
    exact⟨fun z=>(atKey_put_other b _ _).trans (ih.1 z),(has_put_other b _).trans ih.2⟩
 have:=c rows.reverse;rwa [List.reverse_reverse] at this
end Go.Proofs.YtkofnpkopbnocaaGreatDoor.Cas
namespace Go.Proofs.YtkofnpkopbnocaaGreatDoor
open Go.RowKit Go.Lib Go.Maps
def XBD(w:World)(b:Nat)(rows:List (Int × Int)):Prop:=∃m,w.ownsMap Tryz.prog 3 (plainElem Tryz.prog 193) b m (XCn .i64 .u64 (.map []) rows)
def X9c(rows:List (Int × Int))(w:World)(e:Ending)(w':World):Prop:=∃b,e= .returned (.map (some b))∧XBD w' b rows∧Below w.heap.size w w'
theorem X9d{P:Program}{ops:Array Oper}{Q:Exit→Act→World→Prop}{l l':List Oper}{a:Act}{w:World}(h:l=l')(k:wpList P ops Q l' a w):wpList P ops Q l a w:=h ▸ k
theorem X9e{w w1 w2:World}{b:Nat}(h:Below w.heap.size w w1)(hg:w1.grownBy w2 (some b))(hb:w.heap.size≤b):Below w.heap.size w w2:=
 h.grown hg h.size (fun k hk=>by cases hk;exact hb)
theorem Xr1(w:World):Calls Tryz.prog 196 #[] w (X9c Cas.Xr7 w):=by
 have d:=@run_makeMap Tryz.prog;go_enter Tryz.func196,Tryz.ntmps196;repeat (first | ((refine Xjq (T:=195) (k:=3) (e:=193) (q:= .i64) (r:= .u64) (s:=1) Tryz.underlying3 Tryz.underlying193 Tryz.underlying195 58 (rows:=Cas.Xr7) (b:=w.heap.size) (m:=0) (D:= .map []) ?hf ?hs ?ho (by unfold maxLen;omega) ?_);(case hs=>rfl);(case hf=>kernel_rfl);(case ho=>exact World.ownsMap_made _ _ _ _)) | go_values | go_skip | go_guarded | go_step | go_upon)
 intro w1 a c;replace a:=hid a;replace c:=hid c;refine X9d (l':= [⟨_,_,_,_,_,_⟩,⟨_,_,_,_,_,_⟩]) rfl ?_;go_wp2_with fail;go_ret;exact⟨_,rfl,⟨_,a.out⟩,X9e (X04 w _) c.out (Nat.le_refl _)⟩
theorem XbA(w:World):Calls Tryz.prog 197 #[] w (X9c Cas.X6h w):=by
 have d:=@run_makeMap Tryz.prog;go_enter Tryz.func197,Tryz.ntmps197;repeat (first | ((refine Xjq (T:=195) (k:=3) (e:=193) (q:= .i64) (r:= .u64) (s:=1) Tryz.underlying3 Tryz.underlying193 Tryz.underlying195 74 (rows:=Cas.X6h) (b:=w.heap.size) (m:=0) (D:= .map []) ?hf ?hs ?ho (by unfold maxLen;omega) ?_);(case hs=>rfl);(case hf=>kernel_rfl);(case ho=>exact World.ownsMap_made _ _ _ _)) | go_values | go_skip | go_guarded | go_step | go_upon)
 intro w1 a c;replace a:=hid a;replace c:=hid c;refine X9d (l':= [⟨_,_,_,_,_,_⟩,⟨_,_,_,_,_,_⟩]) rfl ?_;go_wp2_with fail;go_ret;exact⟨_,rfl,⟨_,a.out⟩,X9e (X04 w _) c.out (Nat.le_refl _)⟩
theorem Xr2(w:World):Calls Tryz.prog 198 #[] w (X9c Cas.Xr8 w):=by
 have d:=@run_makeMap Tryz.prog;go_enter Tryz.func198,Tryz.ntmps198;repeat (first | ((refine Xjq (T:=195) (k:=3) (e:=193) (q:= .i64) (r:= .u64) (s:=1) Tryz.underlying3 Tryz.underlying193 Tryz.underlying195 37 (rows:=Cas.Xr8) (b:=w.heap.size) (m:=0) (D:= .map []) ?hf ?hs ?ho (by unfold maxLen;omega) ?_);(case hs=>rfl);(case hf=>kernel_rfl);(case ho=>exact World.ownsMap_made _ _ _ _)) | go_values | go_skip | go_guarded | go_step | go_upon)
 intro w1 a c;replace a:=hid a;replace c:=hid c;refine X9d (l':= [⟨_,_,_,_,_,_⟩,⟨_,_,_,_,_,_⟩]) rfl ?_;go_wp2_with fail;go_ret;exact⟨_,rfl,⟨_,a.out⟩,X9e (X04 w _) c.out (Nat.le_refl _)⟩
theorem Xcr(w:World):Calls Tryz.prog 199 #[] w (X9c Cas.X77 w):=by
 have d:=@run_makeMap Tryz.prog;go_enter Tryz.func199,Tryz.ntmps199;repeat (first | ((refine Xjq (T:=195) (k:=3) (e:=193) (q:= .i64) (r:= .u64) (s:=1) Tryz.underlying3 Tryz.underlying193 Tryz.underlying195 45 (rows:=Cas.X77) (b:=w.heap.size) (m:=0) (D:= .map []) ?hf ?hs ?ho (by unfold maxLen;omega) ?_);(case hs=>rfl);(case hf=>kernel_rfl);(case ho=>exact World.ownsMap_made _ _ _ _)) | go_values | go_skip | go_guarded | go_step | go_upon)
 intro w1 a c;replace a:=hid a;replace c:=hid c;refine X9d (l':= [⟨_,_,_,_,_,_⟩,⟨_,_,_,_,_,_⟩]) rfl ?_;go_wp2_with fail;go_ret;exact⟨_,rfl,⟨_,a.out⟩,X9e (X04 w _) c.out (Nat.le_refl _)⟩
def Xr3(rows:List (Int × Int))(w:World)(e:Ending)(w':World):Prop:=
 (rows= []∧e= .returned (.map none)∧Below w.heap.size w w')∨X9c rows w e w'
theorem XvR(r:Int)(w:World)(__h0: -9223372036854775808≤r)(_h1:r≤9223372036854775807):Calls Tryz.prog 174 #[.int .i64 r] w (Xr3 (Cas.partT r) w):=by
 have hp:Cas.partT r=if r / 256=0 then Cas.Xr7 else if r / 256=1 then Cas.X6h else if r / 256=3 then Cas.Xr8 else if r / 256=30 then Cas.X77 else []:=rfl
 obtain⟨T,hT⟩: ∃T,Cas.partT r=T:=⟨_,rfl⟩;rw[hT] at hp ⊢;replace hp:=hid hp;clear hT;go_enter Tryz.func174,Tryz.ntmps174;go_wp2_with fail
 ·have hc:(r / 256 == 0)=true:=by assumption
  have hT:T=Cas.Xr7:=by rw[hp.out,if_pos (by simpa using hc)]
  replace hT:=hid hT;refine(Xr1 _).mono ?_;rintro e w1 ⟨b,rfl,hm,hb⟩;replace hm:=hid hm;replace hb:=hid hb;go_wp2_with fail;go_ret;exact .inr ⟨b,rfl,by rw[hT.out];exact hm.out,hb.out⟩
 ·have hd:(r / 256 == 0)=false:=by assumption
  have hc:(r / 256 == 1)=true:=by assumption
  have hT:T=Cas.X6h:=by rw[hp.out,if_neg (by simpa using hd),if_pos (by simpa using hc)]
  replace hT:=hid hT;refine(XbA _).mono ?_;rintro e w1 ⟨b,rfl,hm,hb⟩;replace hm:=hid hm;replace hb:=hid hb;go_wp2_with fail;go_ret;exact .inr ⟨b,rfl,by rw[hT.out];exact hm.out,hb.out⟩
 ·have hd:(r / 256 == 0)=false:=by assumption
  have a:(r / 256 == 1)=false:=by assumption
  have hc:(r / 256 == 3)=true:=by assumption
  have hT:T=Cas.Xr8:=by rw[hp.out,if_neg (by simpa using hd),if_neg (by simpa using a),if_pos (by simpa using hc)]
  replace hT:=hid hT;refine(Xr2 _).mono ?_;rintro e w1 ⟨b,rfl,hm,hb⟩;replace hm:=hid hm;replace hb:=hid hb;go_wp2_with fail;go_ret;exact .inr ⟨b,rfl,by rw[hT.out];exact hm.out,hb.out⟩
 ·have hd:(r / 256 == 0)=false:=by assumption
  have a:(r / 256 == 1)=false:=by assumption
  have c:(r / 256 == 3)=false:=by assumption
  have hc:(r / 256 == 30)=true:=by assumption
  have hT:T=Cas.X77:=by rw[hp.out,if_neg (by simpa using hd),if_neg (by simpa using a),if_neg (by simpa using c),if_pos (by simpa using hc)]
  replace hT:=hid hT;refine(Xcr _).mono ?_;rintro e w1 ⟨b,rfl,hm,hb⟩;replace hm:=hid hm;replace hb:=hid hb;go_wp2_with fail;go_ret;exact .inr ⟨b,rfl,by rw[hT.out];exact hm.out,hb.out⟩
 ·have hd:(r / 256 == 0)=false:=by assumption
  have a:(r / 256 == 1)=false:=by assumption
  have c:(r / 256 == 3)=false:=by assumption
  have hd3:(r / 256 == 30)=false:=by assumption
  have hT:T= []:=by rw[hp.out,if_neg (by simpa using hd),if_neg (by simpa using a),if_neg (by simpa using c),if_neg (by simpa using hd3)]
  replace hT:=hid hT;go_ret;exact .inl ⟨hT.out,rfl,Below.refl _ _⟩
def upV(h:Int)(k:Nat):List Int:=([h / 4294967296 % 65536,h / 65536 % 65536,h % 65536].take (3 - k)).filter fun x=>decide (0<x)
theorem Xcs(x:Int)(h0:0≤x)(h1:x<2 ^ 64):bits .and .u64 x 65535=x % 65536:=by
 have hc:(65535:Int)=((65535:Nat):Int):=rfl;obtain⟨n,rfl⟩: ∃n:Nat,x=n:=⟨x.toNat,by omega⟩;have hb:IntKind.u64.bits=64:=rfl;rw[hc];simp only[bits,hb,BitVec.ofInt_natCast,BitVec.toNat_and,BitVec.toNat_ofNat];rw[Nat.mod_eq_of_lt (show n<2 ^ 64 by omega),Nat.mod_eq_of_lt (show 65535<2 ^ 64 by decide),show (65535:Nat)=2 ^ 16 - 1 from rfl,Nat.and_two_pow_sub_one_eq_mod,IntKind.wrap_u64];omega
def plcV(h:Int)(k:Nat):Int:=if k=0 then h % 65536 else if k=1 then h / 65536 % 65536 else h / 4294967296 % 65536
theorem Xr4(h:Int)(k:Nat)(hk:k<3)(h0:plcV h k=0):upV h k=upV h (k+1):=by
 match k,hk with
 | 0,_=>simp only[plcV,if_pos] at h0;simp [upV,List.filter_cons,h0]
 | 1,_=>simp only[plcV,if_neg (show ¬(1:Nat)=0 by decide),if_pos] at h0;simp [upV,List.filter_cons,h0]
 | 2,_=>simp only[plcV,if_neg (show ¬(2:Nat)=0 by decide),if_neg (show ¬(2:Nat)=1 by decide)] at h0;simp [upV,h0]
theorem XkE(h:Int)(k:Nat)(hk:k<3)(x:Int)(hx:plcV h k=x)(h0:0<x):upV h k=upV h (k+1)++ [x]:=by
 subst hx
 match k,hk with
 |
  0,_=>
  simp only[plcV,if_pos] at h0;by_cases h1:0<h / 65536 % 65536 <;> by_cases h2:0<h / 4294967296 % 65536 <;> simp [upV,plcV,h0,h1,h2]
 |
  1,_=>
  simp only[plcV,if_neg (show ¬(1:Nat)=0 by decide),if_pos] at h0;by_cases h2:0<h / 4294967296 % 65536 <;> simp [upV,plcV,h0,h2]
 |
  2,_=>
  simp only[plcV,if_neg (show ¬(2:Nat)=0 by decide),if_neg (show ¬(2:Nat)=1 by decide)] at h0;simp [upV,plcV,h0]
theorem XkF(h:Int)(k:Nat):(upV h k).length≤3:=by
 refine Nat.le_trans (List.length_filter_le _ _) ?_;rw[List.length_take];simp
theorem Xo3(h:Int)(w:World)(h0:0≤h)(h1:h<281474976710656):Calls Tryz.prog 175 #[.int .u64 h] w (Makes (Cas.valsI h) w):=by
 obtain⟨i0,hi,u,v,y⟩:=info_parts X2p;have f: ∀k,k<3→∃x,bits .and .u64 (if k=0 then h else if k=1 then h / 65536 else h / 4294967296) 65535=x∧plcV h k=x∧0≤x∧x<65536:=by
  intro k hk
  match k,hk with
  | 0,_=>exact⟨h % 65536,Xcs h (by omega) (by omega),rfl,by omega,by omega⟩
  | 1,_=>exact⟨h / 65536 % 65536,Xcs (h / 65536) (by omega) (by omega),rfl,by omega,by omega⟩
  | 2,_=>exact⟨h / 4294967296 % 65536,Xcs (h / 4294967296) (by omega) (by omega),rfl,by omega,by omega⟩
 replace f:=hid f;have h3:=hid (show upV h 3= [] from rfl);go_enter Tryz.func175,Tryz.ntmps175;go_wp2_with fail;go_loopg [3,4] 3 (fun g vl vk wr=>∃ (kz:Int),g≤3∧Hid (kz=(g:Int) - 1)∧vk= .int .i64 kz∧OwnI w.heap.size vl (upV h g) wr∧Below w.heap.size w wr)
 case atStart=>exact⟨2,by omega,hid rfl,rfl,X0O _ _,Below.refl _ _⟩
 case round=>
  obtain⟨kz,hk,t,rfl,c,a⟩:=hrel;replace c:=hid c;replace a:=hid a
  match gk,hk with
  |
   0,_=>
   obtain rfl:kz= -1:=t.out;go_wp2_with fail;go_ret;exact⟨_,rfl,c.out,a.out⟩
  |
   1,_=>
   obtain rfl:kz=0:=t.out;obtain⟨x,hx,hp,r,s⟩:=f.out 0 (by omega);simp only[if_pos] at hx;rcases Int.lt_or_le 0 x with p | i
   ·have e:=hid (XkE h 0 (by omega) x hp p);have n:=XkF h 1;replace hp:=hid hp;obtain⟨m,hm⟩: ∃m,upV h 1=m:=⟨_,rfl⟩;rw[show upV h (0+1)=upV h 1 from rfl,hm] at e;rw[hm] at n c;replace hm:=hid hm;have d:=hid (X0B c.out (.cells #[.int .i64 x] 3));have b:=hid (a.out.alloc a.out.size (.cells #[.int .i64 x] 3));have q:=hid (X0Y (X0a (X0H w.heap.size wr [x] #[.int .i64 x] wr.heap.size 1 rfl a.out.size rfl rfl (by unfold maxLen;omega))))
    go_wp2_with (at_builtin;refine X0c rfl _ _ 24 rfl w.heap.size 3 i0 (.int .i64 0) 8 Tryz.underlying24 hi u v y rfl _ _ _ rfl d.out _ _ rfl q.out (X0u _) (by unfold maxLen;first | (simp;done) | (simp;omega)) (by first | (simp;done) | (simp;omega)) b.out.size ?_;intro v5 w5 o j;have o5:=hid (X0i (l:=m++ [x]) o (by(try simp);try omega) (by(try simp);try omega));have b5:=hid (X0k b.out j b.out.size d.out (Nat.le_refl _));clear o j);go_roundg 0
    case measure=>omega
    case rel=>exact⟨_,by omega,hid (by omega),rfl,by rw[e.out];exact o5.out,b5.out⟩
   ·obtain rfl:x=0:=by omega
    have hold:=hid (Xr4 h 0 (by omega) hp);replace hp:=hid hp;clear r s i;go_wp2_with fail;go_roundg 0
    case measure=>omega
    case rel=>exact⟨_,by omega,hid (by omega),rfl,by rw[hold.out];exact c.out,a.out⟩
  |
   2,_=>
   obtain rfl:kz=1:=t.out;obtain⟨x,hx,hp,r,s⟩:=f.out 1 (by omega);simp only[if_neg (show ¬(1:Nat)=0 by decide),if_pos] at hx;rcases Int.lt_or_le 0 x with p | i
   ·have e:=hid (XkE h 1 (by omega) x hp p);have n:=XkF h 2;replace hp:=hid hp;obtain⟨m,hm⟩: ∃m,upV h 2=m:=⟨_,rfl⟩;rw[show upV h (1+1)=upV h 2 from rfl,hm] at e;rw[hm] at n c;replace hm:=hid hm;have d:=hid (X0B c.out (.cells #[.int .i64 x] 3));have b:=hid (a.out.alloc a.out.size (.cells #[.int .i64 x] 3));have q:=hid (X0Y (X0a (X0H w.heap.size wr [x] #[.int .i64 x] wr.heap.size 1 rfl a.out.size rfl rfl (by unfold maxLen;omega))))
    go_wp2_with (at_builtin;refine X0c rfl _ _ 24 rfl w.heap.size 3 i0 (.int .i64 0) 8 Tryz.underlying24 hi u v y rfl _ _ _ rfl d.out _ _ rfl q.out (X0u _) (by unfold maxLen;first | (simp;done) | (simp;omega)) (by first | (simp;done) | (simp;omega)) b.out.size ?_;intro v5 w5 o j;have o5:=hid (X0i (l:=m++ [x]) o (by(try simp);try omega) (by(try simp);try omega));have b5:=hid (X0k b.out j b.out.size d.out (Nat.le_refl _));clear o j);go_roundg 1
    case measure=>omega
    case rel=>exact⟨_,by omega,hid (by omega),rfl,by rw[e.out];exact o5.out,b5.out⟩
   ·obtain rfl:x=0:=by omega
    have hold:=hid (Xr4 h 1 (by omega) hp);replace hp:=hid hp;clear r s i;go_wp2_with fail;go_roundg 1
    case measure=>omega
    case rel=>exact⟨_,by omega,hid (by omega),rfl,by rw[hold.out];exact c.out,a.out⟩
  |
   3,_=>
   obtain rfl:kz=2:=t.out;obtain⟨x,hx,hp,r,s⟩:=f.out 2 (by omega);simp only[if_neg (show ¬(2:Nat)=0 by decide),if_neg (show ¬(2:Nat)=1 by decide)] at hx;rcases Int.lt_or_le 0 x with p | i
   ·have e:=hid (XkE h 2 (by omega) x hp p);have n:=XkF h 3;replace hp:=hid hp;obtain⟨m,hm⟩: ∃m,upV h 3=m:=⟨_,rfl⟩;rw[show upV h (2+1)=upV h 3 from rfl,hm] at e;rw[hm] at n c;replace hm:=hid hm;have d:=hid (X0B c.out (.cells #[.int .i64 x] 3));have b:=hid (a.out.alloc a.out.size (.cells #[.int .i64 x] 3));have q:=hid (X0Y (X0a (X0H w.heap.size wr [x] #[.int .i64 x] wr.heap.size 1 rfl a.out.size rfl rfl (by unfold maxLen;omega))))
    go_wp2_with (at_builtin;refine X0c rfl _ _ 24 rfl w.heap.size 3 i0 (.int .i64 0) 8 Tryz.underlying24 hi u v y rfl _ _ _ rfl d.out _ _ rfl q.out (X0u _) (by unfold maxLen;first | (simp;done) | (simp;omega)) (by first | (simp;done) | (simp;omega)) b.out.size ?_;intro v5 w5 o j;have o5:=hid (X0i (l:=m++ [x]) o (by(try simp);try omega) (by(try simp);try omega));have b5:=hid (X0k b.out j b.out.size d.out (Nat.le_refl _));clear o j);go_roundg 2
    case measure=>omega
    case rel=>exact⟨_,by omega,hid (by omega),rfl,by rw[e.out];exact o5.out,b5.out⟩
   ·obtain rfl:x=0:=by omega
    have hold:=hid (Xr4 h 2 (by omega) hp);replace hp:=hid hp;clear r s i;go_wp2_with fail;go_roundg 2
    case measure=>omega
    case rel=>exact⟨_,by omega,hid (by omega),rfl,by rw[hold.out];exact c.out,a.out⟩
theorem X9f(r:Int)(w:World)(h0: -9223372036854775808≤r)(h1:r≤9223372036854775807):Calls Tryz.prog 145 #[.int .i64 r] w (Makes (Cas.foldI r) w):=by
 have hf:=Cas.XBE r;have d:=XvR r;have l:=@Cas.XE6 r;obtain⟨k,g⟩:=Cas.XBF .i64 .u64 r (Cas.partT r);obtain⟨T,hT⟩: ∃T,Cas.partT r=T:=⟨_,rfl⟩;rw[hT] at hf d k g l;clear hT;have hz: ∀w:World,(zeroValue 193).run Tryz.prog w= .ok (.int .u64 0) w:=fun w=>by kernel_rfl
 have f:keyOf Tryz.prog 3 (.int .i64 r)=some (.int .i64 r):=keyOf_int_mk Tryz.underlying3 (by simp only[Lit.wf,Bool.and_eq_true,decide_eq_true_eq];exact⟨h0,h1⟩);have n: ∀w:World,(Instr.lookup 195 (.map none) (.int .i64 r) true).run Tryz.prog w= .ok (.tuple #[.int .u64 0, .bool false]) w:=fun w=>
  Maps.look_nil true (int_keyed Tryz.underlying3) Tryz.underlying195 (hz w) f
 have p:(∃h,Cas.lookR T r=some h)∨Cas.lookR T r=none:=by
  cases Cas.lookR T r with
  | none=>exact .inr rfl
  | some h=>exact .inl ⟨h,rfl⟩
 rcases p with⟨h,hl⟩ | hl
 ·rw[hl] at hf;replace hf:=hid hf;have hb:=l hl;obtain⟨s,t⟩:=hb;have q:=hid (fun w=>Xo3 h w s t);have hT:T≠ []:=fun e=>by rw[e] at hl;cases hl
  have j:(XCn .i64 .u64 (.map []) T).atKey (.int .i64 r) (.lit (.int .u64 0))= .lit (.int .u64 h):=by rw[k,hl]
  have i:Maps.has (XCn .i64 .u64 (.map []) T) (.int .i64 r)=true:=by rw[g,hl];rfl
  replace j:=hid j;replace hz:=hid hz;replace f:=hid f;replace d:=hid d;clear k g l hl n;go_enter Tryz.func145,Tryz.ntmps145;go_wp2_with fail;refine(d.out _ h0 h1).mono ?_;rintro e w1 (⟨he,_⟩ | ⟨b,rfl,⟨m,hm⟩,a⟩)
  ·exact absurd he hT
  replace hm:=hid hm;replace a:=hid a;clear hT;go_wp2_with (at_lookup;refine wpList_lookup_own_ok_int _ rfl _ _ 195 rfl 3 193 .u64 (int_keyed Tryz.underlying3) Tryz.underlying195 Tryz.underlying193 (hz.out _) b m _ rfl hm.out _ (.int .i64 r) rfl f.out ?_;intro c hc _;obtain rfl:c=h:=(by have:=hc.symm.trans j.out;simpa using this);clear hc);refine(q.out _).mono ?_;rintro e w2 ⟨v,rfl,hv,o⟩;replace hv:=hid hv;replace o:=hid o;go_wp2_with fail;go_ret;exact⟨_,rfl,X0w (Xdq hv.out hf.out.symm) a.out.size,X05 a.out o.out⟩
 ·rw[hl] at hf;replace hf:=hid hf;have i:Maps.has (XCn .i64 .u64 (.map []) T) (.int .i64 r)=false:=by rw[g,hl];rfl
  replace hz:=hid hz;replace f:=hid f;replace d:=hid d;clear k g l hl;go_enter Tryz.func145,Tryz.ntmps145;go_wp2_with fail;refine(d.out _ h0 h1).mono ?_;rintro e w1 (⟨he,rfl,a⟩ | ⟨b,rfl,⟨m,hm⟩,a⟩)
  ·replace he:=hid he;replace a:=hid a;replace i:=hid i;go_wp2_with fail;go_ret;exact⟨_,rfl,Xdq (X0H w.heap.size w1 [r] #[.int .i64 r] _ 1 rfl a.out.size rfl rfl (by unfold maxLen;omega)) hf.out.symm,a.out.alloc a.out.size _⟩
  ·replace hm:=hid hm;replace a:=hid a;clear n;go_wp2_with (at_lookup;refine wpList_lookup_own_ok_int _ rfl _ _ 195 rfl 3 193 .u64 (int_keyed Tryz.underlying3) Tryz.underlying195 Tryz.underlying193 (hz.out _) b m _ rfl hm.out _ (.int .i64 r) rfl f.out ?_;intro c hc _;clear hc);go_ret;exact⟨_,rfl,Xdq (X0H w.heap.size w1 [r] #[.int .i64 r] _ 1 rfl a.out.size rfl rfl (by unfold maxLen;omega)) hf.out.symm,a.out.alloc a.out.size _⟩
end Go.Proofs.YtkofnpkopbnocaaGreatDoor
