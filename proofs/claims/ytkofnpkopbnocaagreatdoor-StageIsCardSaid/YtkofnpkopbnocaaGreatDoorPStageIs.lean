/- StageIs: what may be, what a step does, whether one can, and how much is kept, is what the document says. The frame: the row, its step, the card. -/
import Derived.Test.YtkofnpkopbnocaaGreatDoorStW1
import Derived.Test.YtkofnpkopbnocaaGreatDoorFMk
import Derived.Test.YtkofnpkopbnocaaGreatDoorFP
import Derived.Test.YtkofnpkopbnocaaGreatDoorBasP
import Derived.Test.YtkofnpkopbnocaaGreatDoorStAk
import Derived.Test.YtkofnpkopbnocaaGreatDoorFL
set_option linter.unusedVariables false
set_option linter.unusedSimpArgs false
set_option maxRecDepth 100000
namespace Go.Proofs.YtkofnpkopbnocaaGreatDoor.stageIs
open Go.ChangeShapes Go.WideShapes Go.ChangeAt Go.RowKit Go.Proofs.YtkofnpkopbnocaaGreatDoor
open Go.ChangeMaps (open_string shut_string)
theorem contract(H:Type)(enc:TypeId × Value→H)(W:World)(base:Nat)(args:Array Value)(ds gs:List (DataW H))(before:List MemPlace)
 (hval: ∀ (j:Nat) t v,Tryz.f3.params[j]? =some t→args[j]? =some v→Value.okWide Tryz.prog W .any base t v)
 (hW:DataW.Whole enc Tryz.prog Tryz.f3.params.toList Rows.stageIsSpec.vars false W args.toList ds gs before) (hL:laidMetH Tryz.prog Rows.stageIsRow.laid W):
 Calls Tryz.prog 3 args W fun e W'=>∃v,e= .returned v∧Rows.stageIsSpec.post enc Tryz.prog Tryz.f3 false true false false W args v W':=by
 have b:=hW;obtain⟨p,q,a,hV,rfl,n,o⟩:=hW;have hA:DataW.TrodAll enc Tryz.prog W 0 (fun _=>true) true Tryz.f3.params.toList args.toList ds p:=a;rw[Tryz.params3] at hA hval;obtain⟨v0,r,d0,i,p0,q0,c,rfl,rfl,h0,r0⟩:=trodAll_cons hA;obtain⟨v1,s,d1,k,p1,q1,rfl,rfl,rfl,h1,r1⟩:=trodAll_cons r0;obtain⟨v2,u,d2,l,p2,q2,rfl,rfl,rfl,h2,r2⟩:=trodAll_cons r1;obtain⟨rfl,rfl,rfl⟩:=trodAll_nil r2;obtain rfl:args= #[v0,v1,v2]:=by cases args;simp_all
 obtain⟨rfl,rfl⟩:=trodVars_none hV;have k0:=h0;have d: ∀x∈p0,x.block<W.heap.size:=by obtain⟨m,hm⟩:=k0;exact DataW.trod_lt m _ _ _ hm
 obtain⟨z0,w0⟩:=XFW (hval 0 34 v0 rfl rfl) h0;have k1:=h1;have f: ∀x∈p1,x.block<W.heap.size:=by obtain⟨m,hm⟩:=k1;exact DataW.trod_lt m _ _ _ hm
 obtain⟨z1,w1⟩:=X9C (hval 1 37 v1 rfl rfl) h1;have k2:=h2;have g: ∀x∈p2,x.block<W.heap.size:=by obtain⟨m,hm⟩:=k2;exact DataW.trod_lt m _ _ _ hm
 obtain⟨z2,w2⟩:=X9C (hval 2 37 v2 rfl rfl) h2;clear a;refine(stageIs_walk XGa XG7 XG8 XGb XG9 v0 z0 v1 z1 v2 z2 W (X16 hL) w0 w1 w2).mono fun e W' ⟨he,bel⟩=>?_;subst he;exact⟨_,rfl,_,_,_,[],_,[],b,trodAll_mk1 (shut_bool Tryz.underlying4 _),(trodAll_cons_mk (Below.trod X0j (by kernel_rfl) (of_decide_eq_true (by kernel_rfl)) k0 bel d) (trodAll_cons_mk (Below.trod X0j (by kernel_rfl) (of_decide_eq_true (by kernel_rfl)) k1 bel f) (trodAll_cons_mk (Below.trod X0j (by kernel_rfl) (of_decide_eq_true (by kernel_rfl)) k2 bel g) trodAll_mk0))),rfl,bel.frame _,fun h=>by cases h⟩
theorem laid_met(os:Os):laidMet Tryz.prog Rows.stageIsRow.laid ((X0h os).forCall (fun _ _=>0) ⟨#[],#[.agg #[.int .i64 0, .string ⟨#[]⟩, .slice none 0 0, .slice none 0 0, .bool false, .int .i64 0, .bool false, .bool false, .slice none 0 0, .slice none 0 0, .bool false, .bool false], .agg #[.slice none 0 0, .bool false], .agg #[.slice none 0 0, .bool false]],[]⟩).memory:=
 laidMet_of_run' 8 (by kernel_rfl) (by kernel_rfl)
theorem reads(os:Os){H:Type}(enc:TypeId × Value→H): ∃a,DataW.whole enc Tryz.prog ((X0h os).forCall (fun _ _=>0) ⟨#[],#[.agg #[.int .i64 0, .string ⟨#[]⟩, .slice none 0 0, .slice none 0 0, .bool false, .int .i64 0, .bool false, .bool false, .slice none 0 0, .slice none 0 0, .bool false, .bool false], .agg #[.slice none 0 0, .bool false], .agg #[.slice none 0 0, .bool false]],[]⟩).memory Tryz.f3.params.toList Rows.stageIsSpec.vars false (#[.agg #[.int .i64 0, .string ⟨#[]⟩, .slice none 0 0, .slice none 0 0, .bool false, .int .i64 0, .bool false, .bool false, .slice none 0 0, .slice none 0 0, .bool false, .bool false], .agg #[.slice none 0 0, .bool false], .agg #[.slice none 0 0, .bool false]]:Array Value).toList 8=some ([.agg [.agg [.lit (.int .i64 0), .agg [.lit (.string [])], .agg [.nil], .agg [.nil, .agg [.lit (.bool false), .lit (.int .i64 0), .lit (.bool false), .lit (.bool false)]], .nil], .nil, .lit (.bool false), .lit (.bool false)], .agg [.nil, .lit (.bool false)], .agg [.nil, .lit (.bool false)]],[],a):=
 ⟨[],by kernel_rfl⟩
theorem lifted(os:Os)(started:os.Started)(H:Type)(enc:TypeId × Value→H)(F:Stop.Interp):
 ReturnsInHanded {} Tryz.checked os 3 .any ((OpenSpec.ofChange Rows.stageIsSpec).preRow enc Tryz.prog Tryz.f3 Rows.stageIsRow.domain false Rows.stageIsRow.laid) (((OpenSpec.ofChange Rows.stageIsSpec).at F).post enc Tryz.prog Tryz.f3 false true false false):=by
 obtain⟨c,hx⟩:=reads os enc;refine returnsInHanded_of_row (C:=Tryz.checked) (s:=OpenSpec.ofChange Rows.stageIsSpec) own started (by kernel_rfl) Tryz.func3
  (witness_row_at (enc:=enc) (C:=Tryz.checked) false (X0h os) #[.agg #[.int .i64 0, .string ⟨#[]⟩, .slice none 0 0, .slice none 0 0, .bool false, .int .i64 0, .bool false, .bool false, .slice none 0 0, .slice none 0 0, .bool false, .bool false], .agg #[.slice none 0 0, .bool false], .agg #[.slice none 0 0, .bool false]] rfl (by kernel_rfl) (by kernel_rfl) (by kernel_rfl)
   (OpenSpec.preRow_of_cond 8 hx (by kernel_rfl) (fun k hk=>by cases hk) (by kernel_rfl) (laid_met os))) ?_
 intro W base args ds gs a b hW _ _ _ hL _ _;exact contract H enc W base args ds gs a b hW hL
theorem said:Rows.StageIsSaid:=
 OpenClaim.holds_of_cond 3 Tryz.f3 rfl rfl rfl rfl rfl rfl rfl ⟨rfl,rfl,rfl,rfl,rfl⟩ rfl rfl rfl rfl rfl (by kernel_rfl) Tryz.func3 (by kernel_rfl)
  (of_decide_eq_true (by kernel_rfl)) (by unfold Func.isWrapper;first | (rw[if_pos (by decide+kernel)];kernel_rfl) | (rw[if_neg (by decide+kernel)];exact⟨rfl,rfl⟩))
  (fun os a H enc _ F=>by rw[OpenClaim.pre_eq_preRow];exact lifted os a H enc F)
theorem plain(f:FuncId)(fn:Func)(hf:Tryz.pinned.checked.prog.funcNamed "pentrough/pentroughlaw17.StageIs" =some f)(hfn:Tryz.pinned.checked.prog.funcs[f]? =some fn):
 true=Tryz.pinned.checked.prog.looks []∧∀ (j:Nat) t,fn.params[j]? =some t→Tryz.pinned.checked.prog.wantsStandIn t=false:=by
 obtain rfl:f=3:=Option.some.inj ((show Tryz.prog.funcNamed "pentrough/pentroughlaw17.StageIs" =some 3 by kernel_rfl).symm.trans hf) |>.symm;obtain rfl:fn=Tryz.f3:=(Option.some.inj (Tryz.func3.symm.trans hfn)).symm;refine⟨by kernel_rfl,fun j t ht=>?_⟩;rw[Tryz.params3] at ht;have hm:=Array.mem_of_getElem? ht;simp only[List.mem_toArray,List.mem_cons,List.mem_nil_iff,or_false] at hm;rcases hm with rfl | rfl | rfl
 ·exact(show Tryz.prog.wantsStandIn 34=false by kernel_rfl)
 ·exact(show Tryz.prog.wantsStandIn 37=false by kernel_rfl)
 ·exact(show Tryz.prog.wantsStandIn 37=false by kernel_rfl)
theorem card:Rows.StageIsCardSaid:=
 Claim7.holds_tied_plain_at .later [] _ _ _ _ said (fun _ h=>by cases h) (by kernel_rfl) (fun _ h=>by cases h) stageIs_row_tie rfl ⟨rfl,rfl⟩ (by kernel_rfl) rfl plain (by kernel_rfl)
end Go.Proofs.YtkofnpkopbnocaaGreatDoor.stageIs
