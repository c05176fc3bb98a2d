import Derived.Test.YtkofnpkopbnocaaGreatDoorTk
import Derived.Test.YtkofnpkopbnocaaGreatDoorPrP
import Derived.Test.YtkofnpkopbnocaaGreatDoorBasQ
import Derived.Test.YtkofnpkopbnocaaGreatDoorBasP
import Derived.Test.YtkofnpkopbnocaaGreatDoorKP
import Derived.Deep.RegionHeld3
import Derived.WalkKit
import Derived.Deep.RegionHeld
import Derived.OrdersHeld
set_option linter.unusedSimpArgs false
set_option linter.unusedVariables false
set_option maxRecDepth 100000
set_option maxHeartbeats 6400000
namespace Go.Proofs.YtkofnpkopbnocaaGreatDoor
open Go.RowKit Go.Lib
theorem XfS(r:Int)(w:World):
 Calls Tryz.prog 221 #[.int .i64 r] w fun e w'=>e= .returned (.int .i64 (Prp.kndI r))∧Below w.heap.size w w':=by
 unfold Prp.kndI;go_enter Tryz.func221,Tryz.ntmps221;go_upto_region 1 with(fail);refine wp_region_lit ?_
 refine X3v 55 (a':= { tmps:= #[.int .i64 r,undef, .int .i64 0,undef,undef,undef, .int .i64 r, .agg #[.int .i64 0, .int .i64 9, .int .i64 3], .agg #[.int .i64 10, .int .i64 10, .int .i64 2], .agg #[.int .i64 11, .int .i64 12, .int .i64 3], .agg #[.int .i64 13, .int .i64 13, .int .i64 1], .agg #[.int .i64 14, .int .i64 31, .int .i64 3], .agg #[.int .i64 127, .int .i64 159, .int .i64 3], .agg #[.int .i64 169, .int .i64 169, .int .i64 14], .agg #[.int .i64 173, .int .i64 173, .int .i64 3], .agg #[.int .i64 174, .int .i64 174, .int .i64 14], .agg #[.int .i64 768, .int .i64 879, .int .i64 4], .agg #[.int .i64 1536, .int .i64 1541, .int .i64 7], .agg #[.int .i64 1564, .int .i64 1564, .int .i64 3], .agg #[.int .i64 1611, .int .i64 1631, .int .i64 4], .agg #[.int .i64 1757, .int .i64 1757, .int .i64 7], .agg #[.int .i64 2307, .int .i64 2307, .int .i64 8], .agg #[.int .i64 2363, .int .i64 2363, .int .i64 8], .agg #[.int .i64 2364, .int .i64 2364, .int .i64 4], .agg #[.int .i64 2366, .int .i64 2368, .int .i64 8], .agg #[.int .i64 2377, .int .i64 2380, .int .i64 8], .agg #[.int .i64 2381, .int .i64 2381, .int .i64 4], .agg #[.int .i64 4352, .int .i64 4447, .int .i64 9], .agg #[.int .i64 4448, .int .i64 4519, .int .i64 10], .agg #[.int .i64 4520, .int .i64 4607, .int .i64 11], .agg #[.int .i64 8203, .int .i64 8203, .int .i64 3], .agg #[.int .i64 8204, .int .i64 8204, .int .i64 4], .agg #[.int .i64 8205, .int .i64 8205, .int .i64 5], .agg #[.int .i64 8206, .int .i64 8207, .int .i64 3], .agg #[.int .i64 8232, .int .i64 8238, .int .i64 3], .agg #[.int .i64 8252, .int .i64 8252, .int .i64 14], .agg #[.int .i64 8265, .int .i64 8265, .int .i64 14], .agg #[.int .i64 8288, .int .i64 8303, .int .i64 3], .agg #[.int .i64 8400, .int .i64 8432, .int .i64 4], .agg #[.int .i64 8482, .int .i64 8482, .int .i64 14], .agg #[.int .i64 8505, .int .i64 8505, .int .i64 14], .agg #[.int .i64 8596, .int .i64 8601, .int .i64 14], .agg #[.int .i64 8986, .int .i64 8987, .int .i64 14], .agg #[.int .i64 9728, .int .i64 9732, .int .i64 14], .agg #[.int .i64 9745, .int .i64 9745, .int .i64 14], .agg #[.int .i64 9748, .int .i64 9749, .int .i64 14], .agg #[.int .i64 9786, .int .i64 9786, .int .i64 14], .agg #[.int .i64 9829, .int .i64 9829, .int .i64 14], .agg #[.int .i64 9889, .int .i64 9889, .int .i64 14], .agg #[.int .i64 9989, .int .i64 9989, .int .i64 14], .agg #[.int .i64 10084, .int .i64 10084, .int .i64 14], .agg #[.int .i64 12441, .int .i64 12442, .int .i64 4], .agg #[.int .i64 65024, .int .i64 65039, .int .i64 4], .agg #[.int .i64 65279, .int .i64 65279, .int .i64 3], .agg #[.int .i64 127462, .int .i64 127487, .int .i64 6], .agg #[.int .i64 127744, .int .i64 127994, .int .i64 14], .agg #[.int .i64 127995, .int .i64 127999, .int .i64 4], .agg #[.int .i64 128000, .int .i64 128591, .int .i64 14], .agg #[.int .i64 128640, .int .i64 128767, .int .i64 14], .agg #[.int .i64 129280, .int .i64 129535, .int .i64 14], .slice (some ⟨w.heap.size,0,none⟩) 53 53,undef,undef,undef,undef,undef],defers:= [] }) (w':=w.alloc (.cells (flat Prp.kinds).toArray 213)) (by kernel_rfl) ?_
 simp only[List.drop_succ_cons,List.drop_zero];go_wp2_with fail;refine(Xhw Prp.kinds Prp.Xk4 (by decide) _ r _ (XDD w _ _ Prp.kinds rfl) 53 rfl).mono ?_;rintro e w1 ⟨a,b,rfl,d⟩;have c:=hid (X1v d);clear d;go_wp2_with fail;go_ret;exact⟨rfl,c.out.trans ((X04 w1 _).mono c.out.size)⟩
theorem Xm6(r:Int)(w:World):
 Calls Tryz.prog 201 #[.int .i64 r] w fun e w'=>e= .returned (.int .i64 (Prp.gcbI r))∧Below w.heap.size w w':=by
 unfold Prp.gcbI;by_cases h:0xAC00≤r∧r≤0xD7A3
 ·simp only[if_pos h];obtain⟨h1,h2⟩:=h;have b:decide (r<0xAC00)=false:=by simp;omega
  have c:decide (0xD7A3<r)=false:=by simp;omega
  by_cases h3:(r - 0xAC00) % 28=0
  ·simp only[if_pos h3];go_enter Tryz.func201,Tryz.ntmps201;go_wp2_with fail;go_ret;exact⟨rfl,Below.refl _ _⟩
  ·simp only[if_neg h3];have d:((r - 0xAC00) % 28 == 0)=false:=by simpa using h3
   go_enter Tryz.func201,Tryz.ntmps201;go_wp2_with fail;go_ret;exact⟨rfl,Below.refl _ _⟩
 ·simp only[if_neg h];by_cases h1:r<0xAC00
  ·clear h;go_enter Tryz.func201,Tryz.ntmps201;go_wp2_with fail;refine(XfS r _).mono ?_;rintro e w1 ⟨rfl,a⟩;replace a:=hid a;go_wp2_with fail;go_ret;exact⟨rfl,a.out⟩
  ·have b:decide (r<0xAC00)=false:=by simp;omega
   have h2:0xD7A3<r:=by omega
   clear h;go_enter Tryz.func201,Tryz.ntmps201;go_wp2_with fail;refine(XfS r _).mono ?_;rintro e w1 ⟨rfl,a⟩;replace a:=hid a;go_wp2_with fail;go_ret;exact⟨rfl,a.out⟩
theorem XcA(s:Clu.CS)(w:World):Calls Tryz.prog 102 #[csV s] w fun e w'=>e= .returned (.bool (Clu.saneB s))∧Below w.heap.size w w':=by
 obtain⟨on,k,p,o⟩:=s;obtain⟨R,hR⟩: ∃R,Clu.saneB ⟨on,k,p,o⟩=R:=⟨_,rfl⟩;rw[hR];unfold csV;dsimp only
 unfold Clu.saneB Clu.zero at hR;replace hR:=hid hR;rcases on with _ | _ <;> rcases p with _ | _ <;> rcases o with _ | _;all_goals
  go_enter Tryz.func102,Tryz.ntmps102;go_wp2_with fail
 all_goals
  go_ret;refine⟨X0p ?_,X04 w _⟩;rw[←hR.out];first | (simp [*];done) | (simp_all;done) | (simp_all;omega) | (simp at *;omega) | (rw[Bool.eq_iff_iff];simp_all;done) | (rw[Bool.eq_iff_iff];simp_all;omega)
def togB(s:Clu.CS)(k:Int):Bool:=
 decide (s.kind=9∧(k=9∨k=10∨k=12∨k=13)) || decide ((s.kind=10∨s.kind=12)∧(k=10∨k=11)) || decide ((s.kind=11∨s.kind=13)∧k=11) || decide (s.kind=7) || (decide (s.kind=5) && s.pict && decide (k=14)) || (decide (s.kind=6) && s.odd && decide (k=6))
def partB(s:Clu.CS)(k:Int):Bool:=
 if s.kind=1∧k=2 then false else if (1≤s.kind∧s.kind≤3)∨(1≤k∧k≤3) then true else !(decide (k=4∨k=5∨k=8) || togB s k)
theorem Xrs(s:Clu.CS)(k:Int):Clu.endsK s k=if Clu.saneB s=false∨s.on=false then false else partB s k:=by
 unfold Clu.endsK partB togB Clu.Xbj;by_cases h1:Clu.saneB s=false∨s.on=false
 ·rw[if_pos h1,if_pos h1]
 ·rw[if_neg h1,if_neg h1];by_cases h2:s.kind=1∧k=2
  ·rw[if_pos h2,if_pos h2]
  ·rw[if_neg h2,if_neg h2];by_cases h3:(1≤s.kind∧s.kind≤3)∨(1≤k∧k≤3)
   ·rw[if_pos h3,if_pos h3]
   ·rw[if_neg h3,if_neg h3,Bool.eq_iff_iff];generalize s.kind=a;generalize s.pict=p;generalize s.odd=o;rcases p with _ | _ <;> rcases o with _ | _ <;> simp <;> omega
theorem Xwc(s:Clu.CS)(g:Int)(w:World):Calls Tryz.prog 222 #[csV s, .int .i64 g] w fun e w'=>e= .returned (.bool (togB s g))∧Below w.heap.size w w':=by
 obtain⟨on,k,p,o⟩:=s;obtain⟨R,hR⟩: ∃R,togB ⟨on,k,p,o⟩ g=R:=⟨_,rfl⟩;rw[hR];unfold csV;dsimp only
 unfold togB at hR;dsimp only at hR;replace hR:=hid hR;rcases p with _ | _ <;> rcases o with _ | _;all_goals
  go_enter Tryz.func222,Tryz.ntmps222;go_wp2_with fail
 all_goals
  go_ret;refine⟨X0p ?_,X04 w _⟩;rw[←hR.out];first | (simp [*];done) | (simp_all;done) | (simp_all;omega) | (simp at *;omega) | (rw[Bool.eq_iff_iff];simp_all;done) | (rw[Bool.eq_iff_iff];simp_all;omega)
theorem Xrt(s:Clu.CS)(g:Int)(w:World):Calls Tryz.prog 202 #[csV s, .int .i64 g] w fun e w'=>e= .returned (.bool (partB s g))∧Below w.heap.size w w':=by
 have a:=fun W=>Xwc s g W;obtain⟨on,k,p,o⟩:=s;obtain⟨T,hT⟩: ∃T,togB ⟨on,k,p,o⟩ g=T:=⟨_,rfl⟩;obtain⟨R,hR⟩: ∃R,partB ⟨on,k,p,o⟩ g=R:=⟨_,rfl⟩;rw[hR];rw[hT] at a;unfold csV at a ⊢;dsimp only at a ⊢;unfold partB at hR;rw[hT] at hR;dsimp only at hR;have b:=hid (X04 w (.cells #[.bool on, .int .i64 k, .bool p, .bool o] 42));replace hR:=hid hR;replace a:=hid a;clear hT;go_enter Tryz.func202,Tryz.ntmps202;go_wp2_with first | (refine(a.out _).mono ?_;rintro e w1 ⟨rfl,c⟩;replace b:=hid (X05 b.out c);clear c) | fail
 all_goals
  go_ret;refine⟨X0p ?_,b.out⟩;rw[←hR.out];first | (simp [*];done) | (simp_all;done) | (simp_all;omega) | (simp at *;omega) | (rw[Bool.eq_iff_iff];simp_all;done) | (rw[Bool.eq_iff_iff];simp_all;omega)
def X8q(s:Clu.CS):Clu.CS:=if Clu.saneB s=true then s else Clu.zero
theorem XeX(s:Clu.CS)(w:World):Calls Tryz.prog 200 #[csV s] w fun e w'=>e= .returned (csV (X8q s))∧Below w.heap.size w w':=by
 have b:=fun W=>XcA s W;obtain⟨S,hS⟩: ∃S,Clu.saneB s=S:=⟨_,rfl⟩;have hK:X8q s=if S=true then s else Clu.zero:=by unfold X8q;rw[hS]
 rw[hS] at b;obtain⟨on,k,p,o⟩:=s;unfold csV at b;dsimp only at b;have h:=X0g w #[.bool on, .int .i64 k, .bool p, .bool o] 42;have hb:=X0l h (.cells #[.bool false, .int .i64 0, .bool false, .bool false] 42);have d:=X0g (w.alloc (.cells #[.bool on, .int .i64 k, .bool p, .bool o] 42)) #[.bool false, .int .i64 0, .bool false, .bool false] 42;rw[show (w.alloc (.cells #[.bool on, .int .i64 k, .bool p, .bool o] 42)).heap.size=w.heap.size+1 by simp] at d
 have f:Below w.heap.size w ((w.alloc (.cells #[.bool on, .int .i64 k, .bool p, .bool o] 42)).alloc (.cells #[.bool false, .int .i64 0, .bool false, .bool false] 42)):=(X04 w _).alloc (by simp) _;replace f:=hid f;replace d:=hid d;replace hb:=hid hb;replace hK:=hid hK;replace b:=hid b;clear h hS;unfold csV;dsimp only
 go_enter Tryz.func200,Tryz.ntmps200;go_wp2_with fail;refine(b.out _).mono ?_;rintro e w1 ⟨rfl,g⟩;have c:=X02 hb.out g;have a:=X02 d.out g;have c0:=X00 c 0 (.bool on) rfl;have c1:=X00 c 1 (.int .i64 k) rfl;have c2:=X00 c 2 (.bool p) rfl;have c3:=X00 c 3 (.bool o) rfl;have f0:=X06 a 0;have f1:=X06 a 1;have f2:=X06 a 2;have f3:=X06 a 3;have d0:=X00 a 0 (.bool false) rfl;have d1:=X00 a 1 (.int .i64 0) rfl;have d2:=X00 a 2 (.bool false) rfl;have d3:=X00 a 3 (.bool false) rfl;replace g:=hid (X05 f.out g);replace a:=hid a;clear hb f d c;rcases S with _ | _;all_goals
  go_wp2_with fail;rw[hK.out];clear hK;have q0:=fun x0 x1 x2 x3=>(X0V a.out x0 x1 x2 x3).1;have q1:=fun x0 x1 x2 x3=>(X0V a.out x0 x1 x2 x3).2.1;have q2:=fun x0 x1 x2 x3=>(X0V a.out x0 x1 x2 x3).2.2.1;have q3:=fun x0 x1 x2 x3=>(X0V a.out x0 x1 x2 x3).2.2.2;first
   | refine bodyPost_ret (v:= .agg #[.bool on, .int .i64 k, .bool p, .bool o]) ?_ rfl ⟨rfl,X0T g.out (Nat.le_succ _) _ _ _ _⟩;simp [results,Tryz.results200,go_sem,q0,q1,q2,q3];done
   | refine bodyPost_ret (v:= .agg #[.bool false, .int .i64 0, .bool false, .bool false]) ?_ rfl ⟨rfl,X0T g.out (Nat.le_succ _) _ _ _ _⟩;simp [results,Tryz.results200,go_sem,q0,q1,q2,q3];done
theorem Xof(s:Clu.CS)(r:Int):Clu.endsI s r=if (X8q s).on=true then partB (X8q s) (Prp.gcbI r) else false:=by
 unfold Clu.endsI;rw[Xrs];unfold X8q;cases h:Clu.saneB s
 ·simp [Clu.zero]
 ·cases h2:s.on <;> simp [h2]
theorem Xgn(x y:Int):(x == y)=decide (x=y):=by rw[Bool.eq_iff_iff];simp
theorem held4{w w1:World}{a0 a1 a2 a3:Addr}{u0 u1 u2 u3:Value}(hb:Below w.heap.size w w1)(h:w.cell? a0=some u0∧w.cell? a1=some u1∧w.cell? a2=some u2∧w.cell? a3=some u3):
 w1.cell? a0=some u0∧w1.cell? a1=some u1∧w1.cell? a2=some u2∧w1.cell? a3=some u3:=by
 obtain⟨h0,h1,h2,h3⟩:=h;exact⟨by rw[hb.cell (World.block_lt_of_cell? _ _ h0)];exact h0,by rw[hb.cell (World.block_lt_of_cell? _ _ h1)];exact h1,by rw[hb.cell (World.block_lt_of_cell? _ _ h2)];exact h2,by rw[hb.cell (World.block_lt_of_cell? _ _ h3)];exact h3⟩
theorem XcB(s:Clu.CS)(r:Int)(w:World):Calls Tryz.prog 177 #[csV s, .int .i64 r] w fun e w'=>e= .returned (.bool (Clu.endsI s r))∧Below w.heap.size w w':=by
 have c:=fun W=>XeX s W;have b:=fun W=>Xm6 r W;have d:=fun W=>Xrt (X8q s) (Prp.gcbI r) W;rw[Xof];obtain⟨K,hK⟩: ∃K,X8q s=K:=⟨_,rfl⟩;obtain⟨g,hg⟩: ∃g,Prp.gcbI r=g:=⟨_,rfl⟩;obtain⟨PB,i⟩: ∃PB,partB K g=PB:=⟨_,rfl⟩;rw[hK,hg,i] at d;rw[hK] at c;rw[hg] at b;rw[hK,hg,i];obtain⟨on,k,p,o⟩:=s;obtain⟨n2,k2,p2,o2⟩:=K;unfold csV at c d ⊢;dsimp only at c d ⊢;have hb:=hid (X0g w #[.bool on, .int .i64 k, .bool p, .bool o] 42);have h:=hid (X04 w (.cells #[.bool on, .int .i64 k, .bool p, .bool o] 42));replace c:=hid c;replace b:=hid b;replace d:=hid d;clear hK hg i;go_enter Tryz.func177,Tryz.ntmps177
 go_wp2_with fail;refine(c.out _).mono ?_;rintro e w1 ⟨rfl,f⟩;have a:=X02 hb.out f;have f0:=X06 a 0;have f1:=X06 a 1;have f2:=X06 a 2;have f3:=X06 a 3;have b0:=X00 a 0 (.bool on) rfl;have b1:=X00 a 1 (.int .i64 k) rfl;have b2:=X00 a 2 (.bool p) rfl;have b3:=X00 a 3 (.bool o) rfl;have x2:=hid (X9b a (.bool n2) (.int .i64 k2) (.bool p2) (.bool o2));have j:=hid (X0T (X05 h.out f) (Nat.le_refl _) (.bool n2) (.int .i64 k2) (.bool p2) (.bool o2));replace f:=hid f;replace a:=hid a;clear hb h;go_upto_region 2 with(fail);clear f0 f1 f2 f3 b0 b1 b2 b3;rcases n2 with _ | _
 ·have c0:=hid (X00 x2.out 0 (.bool false) rfl);refine wp_region_held_drew (S:=fun w'=>w'.cell? ⟨w.heap.size,0,none⟩=some (.bool false)) (by kernel_rfl) (c0.out) (fun hS=>?_);refine' tk 0 rfl hS ?_;try simp only[putA]
  refine' tk 1 rfl hS ?_;try simp only[putA]
  refine' tk 2 rfl hS ?_;try simp only[putA]
  refine' tkN 3 rfl hS ?_;try simp only[putA]
  refine' tkN 4 rfl hS ?_;try simp only[putA]
  refine' tkN 5 rfl hS ?_;try simp only[putA]
  refine' tkN 6 rfl hS ?_;try simp only[putA]
  refine' tk 7 rfl hS ?_;try simp only[putA]
  refine' tk 8 rfl hS ?_;try simp only[putA]
  refine wpAnyH_done (by kernel_rfl) ?_ _;clear hS c0;go_simp;go_wp2_with fail;go_ret;exact⟨rfl,X05 j.out (Below.refl _ _).drew⟩
 ·have c4:=hid (show _∧_∧_∧_ from⟨X00 x2.out 0 (.bool true) rfl,X00 x2.out 1 (.int .i64 k2) rfl,X00 x2.out 2 (.bool p2) rfl,X00 x2.out 3 (.bool o2) rfl⟩);refine wp_region_held_drew (S:=fun w'=>w'.cell? ⟨w.heap.size,0,none⟩=some (.bool true)∧w'.cell? ⟨w.heap.size,1,none⟩=some (.int .i64 k2)∧w'.cell? ⟨w.heap.size,2,none⟩=some (.bool p2)∧w'.cell? ⟨w.heap.size,3,none⟩=some (.bool o2)) (by kernel_rfl) (c4.out) (fun hS=>?_);refine' tk 0 rfl hS ?_;try simp only[putA]
  refine' tk 1 rfl hS ?_;try simp only[putA]
  refine' tk 2 rfl hS ?_;try simp only[putA]
  refine' tk 3 rfl hS ?_;try simp only[putA]
  refine' tk 4 rfl hS ?_;try simp only[putA]
  refine rdy 5 rfl fun K hK=>?_;go_simp;go_at_call 201;refine(b.out _).mono ?_;rintro e w3 ⟨rfl,l⟩;go_wp2_with fail;refine hK.out _ _ (held4 l hS) (fun hSn=>?_);clear hS;have hS:=hSn;clear hSn;clear hK K;try simp only[putA]
  have m:=hid (X05 j.out ((Below.refl _ _).drew.trans l));refine rdy 6 rfl fun K hK=>?_;go_simp;go_at_call 202;refine(d.out _).mono ?_;rintro e w4 ⟨rfl,n⟩;go_wp2_with fail;refine hK.out _ _ (held4 n hS) (fun hSn=>?_);clear hS;have hS:=hSn;clear hSn;clear hK K;try simp only[putA]
  have q:=hid (X05 m.out n);refine' tk 7 rfl hS ?_;try simp only[putA]
  refine' tk 8 rfl hS ?_;try simp only[putA]
  refine wpAnyH_done (by kernel_rfl) ?_ _;clear hS c4;go_simp;go_wp2_with fail;go_ret;exact⟨rfl,q.out⟩
theorem XcC(s:Clu.CS)(r:Int)(w:World):Calls Tryz.prog 176 #[csV s, .int .i64 r] w fun e w'=>e= .returned (csV (Clu.nextI s r))∧Below w.heap.size w w':=by
 have h:=fun W=>XeX s W;have d:=fun W=>Xm6 r W;obtain⟨R,hR⟩: ∃R,Clu.nextI s r=R:=⟨_,rfl⟩;rw[hR];unfold Clu.nextI Clu.nextK at hR;rw[show (if Clu.saneB s=true then s else Clu.zero)=X8q s from rfl] at hR;obtain⟨K,hK⟩: ∃K,X8q s=K:=⟨_,rfl⟩;obtain⟨g,hg⟩: ∃g,Prp.gcbI r=g:=⟨_,rfl⟩;rw[hK] at h hR;rw[hg] at d hR;obtain⟨on,k,p,o⟩:=s;obtain⟨n2,k2,p2,o2⟩:=K;unfold csV at h ⊢;dsimp only at h hR ⊢;have n:=X0g w #[.bool on, .int .i64 k, .bool p, .bool o] 42;have hb:=hid (X0l n (.cells #[.bool false, .int .i64 0, .bool false, .bool false] 42))
 have f:=X0g (w.alloc (.cells #[.bool on, .int .i64 k, .bool p, .bool o] 42)) #[.bool false, .int .i64 0, .bool false, .bool false] 42;rw[show (w.alloc (.cells #[.bool on, .int .i64 k, .bool p, .bool o] 42)).heap.size=w.heap.size+1 by simp] at f;have i:Below w.heap.size w ((w.alloc (.cells #[.bool on, .int .i64 k, .bool p, .bool o] 42)).alloc (.cells #[.bool false, .int .i64 0, .bool false, .bool false] 42)):=(X04 w _).alloc (by simp) _;replace i:=hid i;replace f:=hid f;replace h:=hid h;replace d:=hid d;replace hR:=hid hR;clear hK hg n;go_enter Tryz.func176,Tryz.ntmps176;go_wp2_with fail
 refine(h.out _).mono ?_;rintro e w1 ⟨rfl,l⟩;have b:=X02 hb.out l;have f0:=X06 b 0;have f1:=X06 b 1;have f2:=X06 b 2;have f3:=X06 b 3;have b0:=X00 b 0 (.bool on) rfl;have b1:=X00 b 1 (.int .i64 k) rfl;have b2:=X00 b 2 (.bool p) rfl;have b3:=X00 b 3 (.bool o) rfl;have x2:=hid (X9b b (.bool n2) (.int .i64 k2) (.bool p2) (.bool o2));have q:=hid (X0T (X05 i.out l) (Nat.le_refl _) (.bool n2) (.int .i64 k2) (.bool p2) (.bool o2));have r2:=hid (X5V (j:=w.heap.size) (X02 f.out l) (.bool n2) (.int .i64 k2) (.bool p2) (.bool o2) (by omega));replace l:=hid l;replace b:=hid b;clear hb i f;go_wp2_with fail
 clear f0 f1 f2 f3 b0 b1 b2 b3;refine(d.out _).mono ?_;rintro e w3 ⟨rfl,m⟩;have c:=X02 x2.out m;have a:=X02 r2.out m;have f0:=X06 a 0;have f1:=X06 a 1;have f2:=X06 a 2;have f3:=X06 a 3;have d0:=X00 a 0 (.bool false) rfl;have d1:=X00 a 1 (.int .i64 0) rfl;have d2:=X00 a 2 (.bool false) rfl;have d3:=X00 a 3 (.bool false) rfl;have c0:=X00 c 0 (.bool n2) rfl;have c1:=X00 c 1 (.int .i64 k2) rfl;have c2:=X00 c 2 (.bool p2) rfl;have c3:=X00 c 3 (.bool o2) rfl;replace m:=hid (X05 q.out m);clear l b x2 r2 q c;replace a:=hid a;go_wp2_with fail;all_goals
  refine bodyPost_ret (v:= .agg #[.bool R.on, .int .i64 R.kind, .bool R.pict, .bool R.odd]) ?_ rfl ⟨rfl,X0T m.out (Nat.le_succ _) _ _ _ _⟩;have q0:=fun x0 x1 x2 x3=>(X0V a.out x0 x1 x2 x3).1;have q1:=fun x0 x1 x2 x3=>(X0V a.out x0 x1 x2 x3).2.1;have q2:=fun x0 x1 x2 x3=>(X0V a.out x0 x1 x2 x3).2.2.1;have q3:=fun x0 x1 x2 x3=>(X0V a.out x0 x1 x2 x3).2.2.2;rw[←hR.out];clear hR m a c0 c1 c2 c3 d0 d1 d2 d3 f0 f1 f2 f3 d h;simp [results,Tryz.results176,go_sem,q0,q1,q2,q3];clear q0 q1 q2 q3
  all_goals first | (simp [*];done) | (simp_all;done) | (simp_all;omega) | (simp_all [Clu.zero];done) | (simp_all [Clu.zero];omega) | (simp only[Xgn,bne] at *;simp_all;done) | (simp only[Xgn,bne] at *;simp_all;omega) | (simp_all [Xgn,bne];done) | (simp_all [Xgn,bne];omega) | (trace_state;sorry)
end Go.Proofs.YtkofnpkopbnocaaGreatDoor
