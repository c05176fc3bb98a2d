/- StageAll: a stage tells what its machine tells. The frame: the row, its step, the card. -/
import Derived.Test.YtkofnpkopbnocaaGreatDoorStW2
import Derived.Test.YtkofnpkopbnocaaGreatDoorFP
import Derived.Test.YtkofnpkopbnocaaGreatDoorStAk
import Derived.Test.YtkofnpkopbnocaaGreatDoorFL
set_option maxRecDepth 100000
namespace Go.Proofs.YtkofnpkopbnocaaGreatDoor.stageAll
open Go.ChangeShapes Go.WideShapes Go.ChangeAt Go.RowKit Go.Proofs.YtkofnpkopbnocaaGreatDoor
open Go.ChangeMaps (open_string shut_string)
set_option linter.unusedVariables false
set_option linter.unusedSimpArgs false
theorem contract(H:Type)(enc:TypeId × Value→H)(W:World)(base:Nat)(args:Array Value)(ds gs:List (DataW H))(before:List MemPlace)
 (hval: ∀ (j:Nat) t v,Tryz.f4.params[j]? =some t→args[j]? =some v→Value.okWide Tryz.prog W .any base t v)
 (hW:DataW.Whole enc Tryz.prog Tryz.f4.params.toList Rows.stageAllSpec.vars false W args.toList ds gs before) (hL:laidMetH Tryz.prog Rows.stageAllRow.laid W):
 Calls Tryz.prog 4 args W fun e W'=>∃v,e= .returned v∧Rows.stageAllSpec.post enc Tryz.prog Tryz.f4 false true false false W args v W':=by
 have b:=hW
 obtain⟨p,q,a,hV,rfl,n,o⟩:=hW
 have hA:DataW.TrodAll enc Tryz.prog W 0 (fun _=>true) true Tryz.f4.params.toList args.toList ds p:=a
 rw[Tryz.params4] at hA hval
 obtain⟨v0,r,d0,i,p0,q0,c,rfl,rfl,h0,r0⟩:=trodAll_cons hA
 obtain⟨v1,s,d1,k,p1,q1,rfl,rfl,rfl,h1,r1⟩:=trodAll_cons r0
 obtain⟨v2,u,d2,l,p2,q2,rfl,rfl,rfl,h2,r2⟩:=trodAll_cons r1
 obtain⟨rfl,rfl,rfl⟩:=trodAll_nil r2
 obtain rfl:args= #[v0,v1,v2]:=by cases args;simp_all
 obtain⟨rfl,rfl⟩:=trodVars_none hV
 have k0:=h0
 have d: ∀x∈p0,x.block<W.heap.size:=by obtain⟨m,hm⟩:=k0;exact DataW.trod_lt m _ _ _ hm
 obtain⟨z0,rfl,w0⟩:=X0C (hval 0 3 v0 rfl rfl) h0
 have k1:=h1
 have f: ∀x∈p1,x.block<W.heap.size:=by obtain⟨m,hm⟩:=k1;exact DataW.trod_lt m _ _ _ hm
 obtain⟨z1,w1⟩:=X0G (hval 1 24 v1 rfl rfl) h1
 have k2:=h2
 have g: ∀x∈p2,x.block<W.heap.size:=by obtain⟨m,hm⟩:=k2;exact DataW.trod_lt m _ _ _ hm
 obtain⟨z2,rfl,w2⟩:=X0C (hval 2 3 v2 rfl rfl) h2
 clear a
 refine(stageAll_walk XGa XG8 XG9 XeT Xaw X7L X7K Xjk z0 v1 z1 z2 W (X16 hL) w0 w1 w2).mono fun e W' ⟨he,bel⟩=>?_
 subst he
 exact⟨_,rfl,_,_,_,[],_,[],b,trodAll_mk1 (shut_bool Tryz.underlying4 _),(trodAll_cons_mk (Below.trod X0j (by kernel_rfl) (of_decide_eq_true (by kernel_rfl)) k0 bel d) (trodAll_cons_mk (Below.trod X0j (by kernel_rfl) (of_decide_eq_true (by kernel_rfl)) k1 bel f) (trodAll_cons_mk (Below.trod X0j (by kernel_rfl) (of_decide_eq_true (by kernel_rfl)) k2 bel g) trodAll_mk0))),rfl,bel.frame _,fun h=>by cases h⟩
theorem laid_met(os:Os):laidMet Tryz.prog Rows.stageAllRow.laid ((X0h os).forCall (fun _ _=>0) ⟨#[],#[.int .i64 0, .slice none 0 0, .int .i64 0],[]⟩).memory:=
 laidMet_of_run' 8 (by kernel_rfl) (by kernel_rfl)
theorem reads(os:Os){H:Type}(enc:TypeId × Value→H): ∃a,DataW.whole enc Tryz.prog ((X0h os).forCall (fun _ _=>0) ⟨#[],#[.int .i64 0, .slice none 0 0, .int .i64 0],[]⟩).memory Tryz.f4.params.toList Rows.stageAllSpec.vars false (#[.int .i64 0, .slice none 0 0, .int .i64 0]:Array Value).toList 8=some ([.lit (.int .i64 0), .nil, .lit (.int .i64 0)],[],a):=
 ⟨[],by kernel_rfl⟩
theorem lifted(os:Os)(started:os.Started)(H:Type)(enc:TypeId × Value→H)(F:Stop.Interp):
 ReturnsInHanded {} Tryz.checked os 4 .any ((OpenSpec.ofChange Rows.stageAllSpec).preRow enc Tryz.prog Tryz.f4 Rows.stageAllRow.domain false Rows.stageAllRow.laid) (((OpenSpec.ofChange Rows.stageAllSpec).at F).post enc Tryz.prog Tryz.f4 false true false false):=by
 obtain⟨c,hx⟩:=reads os enc
 refine returnsInHanded_of_row (C:=Tryz.checked) (s:=OpenSpec.ofChange Rows.stageAllSpec) own started (by kernel_rfl) Tryz.func4
  (witness_row_at (enc:=enc) (C:=Tryz.checked) false (X0h os) #[.int .i64 0, .slice none 0 0, .int .i64 0] rfl (by kernel_rfl) (by kernel_rfl) (by kernel_rfl)
   (OpenSpec.preRow_of_cond 8 hx (by kernel_rfl) (fun k hk=>by cases hk) (by kernel_rfl) (laid_met os))) ?_
 intro W base args ds gs a b hW _ _ _ hL _ _
 exact contract H enc W base args ds gs a b hW hL
theorem said:Rows.StageAllSaid:=
 OpenClaim.holds_of_cond 4 Tryz.f4 rfl rfl rfl rfl rfl rfl rfl ⟨rfl,rfl,rfl,rfl,rfl⟩ rfl rfl rfl rfl rfl (by kernel_rfl) Tryz.func4 (by kernel_rfl)
  (of_decide_eq_true (by kernel_rfl)) (by unfold Func.isWrapper;first | (rw[if_pos (by decide+kernel)];kernel_rfl) | (rw[if_neg (by decide+kernel)];exact⟨rfl,rfl⟩))
  (fun os a H enc _ F=>by rw[OpenClaim.pre_eq_preRow];exact lifted os a H enc F)
theorem plain(f:FuncId)(fn:Func)(hf:Tryz.pinned.checked.prog.funcNamed "pentrough/pentroughlaw17.StageAll" =some f)(hfn:Tryz.pinned.checked.prog.funcs[f]? =some fn):
 true=Tryz.pinned.checked.prog.looks []∧∀ (j:Nat) t,fn.params[j]? =some t→Tryz.pinned.checked.prog.wantsStandIn t=false:=by
 obtain rfl:f=4:=Option.some.inj ((show Tryz.prog.funcNamed "pentrough/pentroughlaw17.StageAll" =some 4 by kernel_rfl).symm.trans hf) |>.symm
 obtain rfl:fn=Tryz.f4:=(Option.some.inj (Tryz.func4.symm.trans hfn)).symm
 refine⟨by kernel_rfl,fun j t ht=>?_⟩
 rw[Tryz.params4] at ht
 have hm:=Array.mem_of_getElem? ht
 simp only[List.mem_toArray,List.mem_cons,List.mem_nil_iff,or_false] at hm
 rcases hm with rfl | rfl | rfl
 ·exact(show Tryz.prog.wantsStandIn 3=false by kernel_rfl)
 ·exact(show Tryz.prog.wantsStandIn 24=false by kernel_rfl)
 ·exact(show Tryz.prog.wantsStandIn 3=false by kernel_rfl)
theorem card:Rows.StageAllCardSaid:=
 Claim7.holds_tied_plain_at .later [] _ _ _ _ said (fun _ h=>by cases h) (by kernel_rfl) (fun _ h=>by cases h) stageAll_row_tie rfl ⟨rfl,rfl⟩ (by kernel_rfl) rfl plain (by kernel_rfl)
end Go.Proofs.YtkofnpkopbnocaaGreatDoor.stageAll
