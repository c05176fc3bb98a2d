import Derived.Test.YtkofnpkopbnocaaGreatDoorTk
import Derived.Test.YtkofnpkopbnocaaGreatDoorClP
import Derived.Test.YtkofnpkopbnocaaGreatDoorMatP
import Derived.Test.YtkofnpkopbnocaaGreatDoorBasQ
import Derived.Test.YtkofnpkopbnocaaGreatDoorBasP
import Derived.Test.YtkofnpkopbnocaaGreatDoorKP
import Derived.Test.YtkofnpkopbnocaaGreatDoorSc
import Derived.Deep.RegionHeld3
import Derived.WalkKit
import Derived.OrdersHeld
import Derived.Deep.RegionHeld
import Derived.Deep.DeepCutAuto
set_option linter.unusedSimpArgs false
set_option linter.unusedVariables false
set_option maxRecDepth 100000
set_option maxHeartbeats 6400000
namespace Go.Proofs.YtkofnpkopbnocaaGreatDoor
open Go.RowKit Go.Lib
theorem XfX(v:Value)(l:List Int)(s:Clu.CS)(w:World)(hl:l.length≤100000)(hv:RI w v l):Calls Tryz.prog 76 #[sgV v s] w fun e w'=>e= .returned (.bool (Sgm.saneB l s))∧Below w.heap.size w w':=by
 obtain⟨p,cap,rfl⟩:=X0b hv;have a:=fun W=>XcA s W;obtain⟨R,hR⟩: ∃R,Sgm.saneB l s=R:=⟨_,rfl⟩;rw[hR];unfold Sgm.saneB at hR;obtain⟨S,hS⟩: ∃S,Clu.saneB s=S:=⟨_,rfl⟩;rw[hS] at hR a;obtain⟨on,k,pi,o⟩:=s;have g:l.isEmpty=decide (l.length=0):=by cases l <;> simp
 rw[g] at hR;obtain⟨n,hn⟩: ∃n,l.length=n:=⟨_,rfl⟩;rw[hn] at hR hl ⊢;unfold sgV;unfold csV at a;dsimp only at a hR ⊢;clear hS hv g hn;have h0:n=0∨0<n:=Nat.eq_zero_or_pos n;have f:n≤32∨¬n≤32:=by omega
 replace a:=hid a;replace hR:=hid hR;rcases h0 with rfl | h0
 ·
  have hb:=hid (X0g w #[.slice p 0 cap, .bool on, .int .i64 k, .bool pi, .bool o] 44);have b:=hid (X04 w (.cells #[.slice p 0 cap, .bool on, .int .i64 k, .bool pi, .bool o] 44));rcases S with _ | _;all_goals
   go_enter Tryz.func76,Tryz.ntmps76;go_wp2_with (go_at_call 102;refine(a.out _).mono ?_;rintro e w1 ⟨rfl,c⟩;have d:=hid (X05 b.out c);have x1:=X02 hb.out c;have c0:=X00 x1 0 (.slice p 0 cap) rfl;have c1:=X00 x1 1 (.bool on) rfl;replace x1:=hid x1)
  all_goals
   go_ret;refine⟨X0p ?_,by first | exact d.out | exact b.out⟩;rw[←hR.out];first | (simp [*];done) | (simp_all;done) | (simp_all;omega) | (clear hR a;cases on <;> simp_all;done) | (clear hR a;cases on <;> simp_all <;> omega) | (trace_state;sorry)
 ·rcases f with f | f
  ·
   have hb:=hid (X0g w #[.slice p n cap, .bool on, .int .i64 k, .bool pi, .bool o] 44);have b:=hid (X04 w (.cells #[.slice p n cap, .bool on, .int .i64 k, .bool pi, .bool o] 44));rcases S with _ | _;all_goals
    go_enter Tryz.func76,Tryz.ntmps76;go_wp2_with (go_at_call 102;refine(a.out _).mono ?_;rintro e w1 ⟨rfl,c⟩;have d:=hid (X05 b.out c);have x1:=X02 hb.out c;have c0:=X00 x1 0 (.slice p n cap) rfl;have c1:=X00 x1 1 (.bool on) rfl;replace x1:=hid x1)
   all_goals
    go_ret;refine⟨X0p ?_,by first | exact d.out | exact b.out⟩;rw[←hR.out];first | (simp [*];done) | (simp_all;done) | (simp_all;omega) | (clear hR a;cases on <;> simp_all;done) | (clear hR a;cases on <;> simp_all <;> omega) | (trace_state;sorry)
  ·
   have hb:=hid (X0g w #[.slice p n cap, .bool on, .int .i64 k, .bool pi, .bool o] 44);have b:=hid (X04 w (.cells #[.slice p n cap, .bool on, .int .i64 k, .bool pi, .bool o] 44));rcases S with _ | _;all_goals
    go_enter Tryz.func76,Tryz.ntmps76;go_wp2_with (go_at_call 102;refine(a.out _).mono ?_;rintro e w1 ⟨rfl,c⟩;have d:=hid (X05 b.out c);have x1:=X02 hb.out c;have c0:=X00 x1 0 (.slice p n cap) rfl;have c1:=X00 x1 1 (.bool on) rfl;replace x1:=hid x1)
   all_goals
    go_ret;refine⟨X0p ?_,by first | exact d.out | exact b.out⟩;rw[←hR.out];first | (simp [*];done) | (simp_all;done) | (simp_all;omega) | (clear hR a;cases on <;> simp_all;done) | (clear hR a;cases on <;> simp_all <;> omega) | (trace_state;sorry)
abbrev put5(w:World)(k:Nat)(x0 x1 x2 x3 x4:Value):World:=((((w.setCell ⟨k,0,none⟩ x0).setCell ⟨k,1,none⟩ x1).setCell ⟨k,2,none⟩ x2).setCell ⟨k,3,none⟩ x3).setCell ⟨k,4,none⟩ x4
theorem X5H{w:World}{k:Nat}{a b c d e:Value}{T:TypeId}(h:Blk w k #[a,b,c,d,e] T)(x0 x1 x2 x3 x4:Value):Blk (put5 w k x0 x1 x2 x3 x4) k #[x0,x1,x2,x3,x4] T:=
 X0Z (X0Z (X0Z (X0Z (X0Z h 0 x0) 1 x1) 2 x2) 3 x3) 4 x4
theorem X4Q{w:World}{k j:Nat}{cs:Array Value}{T:TypeId}(h:Blk w k cs T)(x0 x1 x2 x3 x4:Value)(hne:j≠k):Blk (put5 w j x0 x1 x2 x3 x4) k cs T:=by
 unfold Blk at h ⊢;rw[heap_setCell_other _ _ _ _ (Ne.symm hne),heap_setCell_other _ _ _ _ (Ne.symm hne),heap_setCell_other _ _ _ _ (Ne.symm hne),heap_setCell_other _ _ _ _ (Ne.symm hne),heap_setCell_other _ _ _ _ (Ne.symm hne)];exact h
theorem X2W{n k:Nat}{w w1:World}(h:Below n w w1)(hk:n≤k)(x0 x1 x2 x3 x4:Value):Below n w (put5 w1 k x0 x1 x2 x3 x4):=
 ((((h.setCell (p:=⟨k,0,none⟩) hk x0).setCell (p:=⟨k,1,none⟩) hk x1).setCell (p:=⟨k,2,none⟩) hk x2).setCell (p:=⟨k,3,none⟩) hk x3).setCell (p:=⟨k,4,none⟩) hk x4
theorem X4F{B k:Nat}{v:Value}{l:List Int}{w:World}(h:OwnI B v l w)(hne:v.ownBlock=none∨v.ownBlock≠some k)(x0 x1 x2 x3 x4:Value):OwnI B v l (put5 w k x0 x1 x2 x3 x4):=
 X1d (X1d (X1d (X1d (X1d h _ _ hne) _ _ hne) _ _ hne) _ _ hne) _ _ hne
theorem XhB{w:World}{k:Nat}{a b c d e:Value}{T:TypeId}(h:Blk w k #[a,b,c,d,e] T):w.cell? ⟨k,0,none⟩=some a∧w.cell? ⟨k,1,none⟩=some b∧w.cell? ⟨k,2,none⟩=some c∧w.cell? ⟨k,3,none⟩=some d∧w.cell? ⟨k,4,none⟩=some e:=
 ⟨X00 h 0 _ rfl,X00 h 1 _ rfl,X00 h 2 _ rfl,X00 h 3 _ rfl,X00 h 4 _ rfl⟩
def wellS(l:List Int)(s:Clu.CS):List Int × Clu.CS:=if Sgm.saneB l s=true then (l,s) else ([],Clu.zero)
theorem Xv2(l:List Int)(s:Clu.CS):Sgm.saneB (wellS l s).1 (wellS l s).2=true:=by
 unfold wellS
 split
 ·assumption
 ·decide
theorem Xv3(l:List Int)(s:Clu.CS)(r:Int):Sgm.feedI l s r=Sgm.stepI (wellS l s).1 (wellS l s).2 r:=by
 unfold Sgm.feedI wellS
 split <;> rfl
theorem Xql(l:List Int)(s:Clu.CS):Sgm.endI l s=(wellS l s).1:=by
 unfold Sgm.endI wellS
 split <;> rfl
theorem Xbx(v:Value)(l:List Int)(s:Clu.CS)(w:World)(hl:l.length≤100000)(hv:RI w v l):Calls Tryz.prog 147 #[sgV v s] w fun e w'=>∃va,e= .returned (sgV va (wellS l s).2)∧OwnI w.heap.size va (wellS l s).1 w'∧Below w.heap.size w w':=by
 obtain⟨p,cap,rfl⟩:=X0b hv;obtain⟨on,k,pi,od⟩:=s;unfold sgV;dsimp only
 have j:=X0g w #[.slice p l.length cap, .bool on, .int .i64 k, .bool pi, .bool od] 44;have a:=X0l j (.cells #[.slice none 0 0, .bool false, .int .i64 0, .bool false, .bool false] 44);have g:=X0g (w.alloc (.cells #[.slice p l.length cap, .bool on, .int .i64 k, .bool pi, .bool od] 44)) #[.slice none 0 0, .bool false, .int .i64 0, .bool false, .bool false] 44;rw[show (w.alloc (.cells #[.slice p l.length cap, .bool on, .int .i64 k, .bool pi, .bool od] 44)).heap.size=w.heap.size+1 by simp] at g
 have h:Below w.heap.size w ((w.alloc (.cells #[.slice p l.length cap, .bool on, .int .i64 k, .bool pi, .bool od] 44)).alloc (.cells #[.slice none 0 0, .bool false, .int .i64 0, .bool false, .bool false] 44)):=(X04 w _).alloc (by simp) _;obtain⟨W,hW⟩: ∃W,(w.alloc (.cells #[.slice p l.length cap, .bool on, .int .i64 k, .bool pi, .bool od] 44)).alloc (.cells #[.slice none 0 0, .bool false, .int .i64 0, .bool false, .bool false] 44)=W:=⟨_,rfl⟩;have o:=X03 hv h;rw[hW] at a g h o;have b:=XfX (.slice p l.length cap) l ⟨on,k,pi,od⟩ W hl o;unfold sgV at b;dsimp only at b;unfold wellS;replace a:=hid a
 replace g:=hid g;replace h:=hid h;replace o:=hid o;replace hW:=hid hW;clear hv j;cases hS:Sgm.saneB l ⟨on,k,pi,od⟩ with
 |
  true=>
  rw[if_pos rfl];rw[hS] at b;replace b:=hid b;clear hS;dsimp only
  go_enter Tryz.func147,Tryz.ntmps147;go_upto_region 1 with(fail);rw[hW.out];have b0:=X00 a.out 0 _ rfl;have b1:=X00 a.out 1 _ rfl;have b2:=X00 a.out 2 _ rfl;have b3:=X00 a.out 3 _ rfl;have b4:=X00 a.out 4 _ rfl;go_wp2_with fail;refine b.out.mono ?_;rintro e w2 ⟨rfl,f⟩;have i:=X02 a.out f;have c0:=X00 i 0 _ rfl;have x:=hid (Xqh (.slice p l.length cap) l w2.drew (by omega) (X3l (X03 o.out f)));have c:=hid (X02 g.out f);replace f:=hid (h.out.trans (f.mono h.out.size));replace i:=hid i;clear b0 b1 b2 b3 b4 c0;go_wp2_with fail
  refine wp_region_held_drew (S:=fun w'=>w'.cell? ⟨w.heap.size,0,none⟩=some (.slice p l.length cap)∧w'.cell? ⟨w.heap.size,1,none⟩=some (.bool on)∧w'.cell? ⟨w.heap.size,2,none⟩=some (.int .i64 k)∧w'.cell? ⟨w.heap.size,3,none⟩=some (.bool pi)∧w'.cell? ⟨w.heap.size,4,none⟩=some (.bool od)) (by kernel_rfl) (XhB i.out) (fun hS=>?_);refine' tk 0 rfl hS ?_;try simp only[putA]
  refine' tk 1 rfl hS ?_;try simp only[putA]
  refine' tk 3 rfl hS ?_;try simp only[putA]
  refine' tk 4 rfl hS ?_;try simp only[putA]
  refine rdy 2 rfl fun K hK=>?_;go_simp;go_at_call 60;refine x.out.mono ?_;rintro e w3 ⟨v3,rfl,r,q⟩;have d:=X02 (w:=w2.drew) c.out q;have u:=hid (X02 (w:=w2.drew) i.out q);go_wp2_with fail;refine hK.out _ _ (XhB u.out) (fun hSn=>?_);clear hS;have hS:=hSn;clear hSn;clear hK K;try simp only[putA]
  obtain⟨p3,q3,rfl⟩:=X0b (X0a r);have y:w.heap.size+1<w2.heap.size:=X1h c.out;have n:=hid (X5H d (.slice p3 l.length q3) (.bool on) (.int .i64 k) (.bool pi) (.bool od));have z:=hid (X0w (X4F r (X2S r y) (.slice p3 l.length q3) (.bool on) (.int .i64 k) (.bool pi) (.bool od)) (show w.heap.size≤w2.heap.size by omega));have t:=hid (X2W (X05 (show Below w.heap.size w w2.drew from f.out.drew) q) (Nat.le_succ w.heap.size) (.slice p3 l.length q3) (.bool on) (.int .i64 k) (.bool pi) (.bool od));have F:=X00 d 0 _ rfl;have G:=X00 d 1 _ rfl;have H:=X00 d 2 _ rfl;have I:=X00 d 3 _ rfl;have L:=X00 d 4 _ rfl
  have T:=X06 d 0;have U:=X06 d 1;have V:=X06 d 2;have a0:=X06 d 3;have a1:=X06 d 4;replace d:=hid d;clear q r;refine' tk 5 rfl hS ?_;try simp only[putA]
  refine rdy 6 rfl fun K hK=>?_;go_simp;go_wp2_with fail;refine hK.out _ _ (XhB (X4Q u.out _ _ _ _ _ (by omega))) (fun hSn=>?_);clear hS;have hS:=hSn;clear hSn;clear hK K;try simp only[putA]
  refine wpAnyH_done (by kernel_rfl) ?_ _;go_wp2_with fail;have d0:=X00 n.out 0 _ rfl;have d1:=X00 n.out 1 _ rfl;have d2:=X00 n.out 2 _ rfl;have d3:=X00 n.out 3 _ rfl;have d4:=X00 n.out 4 _ rfl;refine bodyPost_ret (v:= .agg #[.slice p3 l.length q3, .bool on, .int .i64 k, .bool pi, .bool od]) ?_ rfl ⟨_,rfl,z.out,t.out⟩;simp [results,Tryz.results147,go_sem,d0,d1,d2,d3,d4]
 |
  false=>
  rw[if_neg (by simp)];rw[hS] at b;replace b:=hid b;clear hS;unfold Clu.zero;dsimp only
  go_enter Tryz.func147,Tryz.ntmps147;go_upto_region 1 with(fail);rw[hW.out];have b0:=X00 a.out 0 _ rfl;have b1:=X00 a.out 1 _ rfl;have b2:=X00 a.out 2 _ rfl;have b3:=X00 a.out 3 _ rfl;have b4:=X00 a.out 4 _ rfl;go_wp2_with fail;refine b.out.mono ?_;rintro e w2 ⟨rfl,f⟩;have c:=X02 g.out f;have A:=X00 c 0 _ rfl;have B:=X00 c 1 _ rfl;have C:=X00 c 2 _ rfl;have D:=X00 c 3 _ rfl;have E:=X00 c 4 _ rfl;have M:=X06 c 0;have N:=X06 c 1;have O:=X06 c 2;have P:=X06 c 3;have R:=X06 c 4;have m:=hid (X5H c (.slice none 0 0) (.bool false) (.int .i64 0) (.bool false) (.bool false))
  have t:=hid (X2W (h.out.trans (f.mono h.out.size)) (Nat.le_succ w.heap.size) (.slice none 0 0) (.bool false) (.int .i64 0) (.bool false) (.bool false));replace c:=hid c;clear b0 b1 b2 b3 b4 f;go_wp2_with fail;have d0:=X00 m.out 0 _ rfl;have d1:=X00 m.out 1 _ rfl;have d2:=X00 m.out 2 _ rfl;have d3:=X00 m.out 3 _ rfl;have d4:=X00 m.out 4 _ rfl;refine bodyPost_ret (v:= .agg #[.slice none 0 0, .bool false, .int .i64 0, .bool false, .bool false]) ?_ rfl ⟨_,rfl,X0O _ _,t.out⟩;simp [results,Tryz.results147,go_sem,d0,d1,d2,d3,d4]
theorem Xv4(v:Value)(l:List Int)(s:Clu.CS)(w:World)(hl:l.length≤100000)(hv:RI w v l):Calls Tryz.prog 118 #[sgV v s] w fun e w'=>∃va,e= .returned va∧OwnI w.heap.size va (Sgm.endI l s) w'∧Below w.heap.size w w':=by
 rw[Xql];obtain⟨p,cap,rfl⟩:=X0b hv;have d:=hid (X0g w #[.slice p l.length cap, .bool s.on, .int .i64 s.kind, .bool s.pict, .bool s.odd] 44);have a:=Xbx (.slice p l.length cap) l s (w.alloc (.cells #[.slice p l.length cap, .bool s.on, .int .i64 s.kind, .bool s.pict, .bool s.odd] 44)) hl (X03 hv (X04 w _));have b:=hid (X04 w (.cells #[.slice p l.length cap, .bool s.on, .int .i64 s.kind, .bool s.pict, .bool s.odd] 44));obtain⟨L,hL⟩: ∃L,wellS l s=L:=⟨_,rfl⟩;rw[hL] at a ⊢;obtain⟨L,t⟩:=L;obtain⟨on,k,pi,od⟩:=s;obtain⟨h,tk,i,g⟩:=t;unfold sgV at a ⊢;dsimp only at a b ⊢;replace a:=hid a;clear hL hv
 go_enter Tryz.func118,Tryz.ntmps118;go_wp2_with fail;refine a.out.mono ?_;rintro e w2 ⟨va,rfl,ho,c⟩;obtain⟨pa,qa,rfl⟩:=X0b (X0a ho);replace c:=hid (X05 b.out c);replace ho:=hid (X0w ho (show w.heap.size≤_ by simp));have f: ∀ (p1:Option Addr) (n1 c1:Nat) (b1 b2 b3:Bool) (k1:Int) (W:World),(Instr.field 44 (.agg #[.slice p1 n1 c1, .bool b1, .int .i64 k1, .bool b2, .bool b3]) 0).run Tryz.prog W= .ok (.slice p1 n1 c1) W:=fun _ _ _ _ _ _ _ _=>by kernel_rfl
 go_wp2_with fail;go_ret;exact⟨_,rfl,ho.out,c.out⟩
theorem X6W{P:Program}{ops:Array Oper}{o:Oper}{a:Act}{w:World}{K:Act→World→Prop}{Q:Exit→Act→World→Prop}{E:Prop}
 (hg:o.guard=none) (s x:Operand) (t:TypeId) (hop:o.op=Op.call { callee:=Callee.builtin Builtin.append,args:= #[s,x],argTypes:= #[t,t] })
 (base:Nat) (e:TypeId) (i:TypeInfo) (z:Value) (size bytes:Nat) (h1:P.underlying t=some (.slice e)) (h2:P.info? e=some i) (h3:i.zero=some z) (h4:i.size=size) (h5:i.bytes=bytes) (h6:z.cells.size=size) (h7:0<size)
 (v:Value) (n:Nat) (xs:List Value) (hs:a.eval s=v) (hown:w.ownsRow base e size v n xs)
 (ad:Addr) (m c:Nat) (news:List Value) (hx:a.eval x= .slice (some ad) m c) (hn:news.length=m *size) (hc: ∀j u,news[j]? =some u→w.cell? (ad.add j)=some u) (h1c: ∀u∈news,u.oneCell'=true)
 (b1:n+m≤maxLen) (b2:(n+m) *bytes≤140737488355328) (hb:base≤w.heap.size)
 (hK: ∀v' w',w'.ownsRow base e size v' (n+m) (xs++news)→w.grownBy w' v.ownBlock→Lies v' v w→K (a.put o.dst v') w'):
 if Region.wanted o (yielded ops a.tmps)=true then Oper.wp P o a w K Q else E:=by
 have hw:Region.wanted o (yielded ops a.tmps)=true:=by simp [Region.wanted,hg]
 rw[if_pos hw];obtain⟨v',w',b,r1,r2,_⟩:=run_append_own (P:=P) w base t o.type e i z size bytes h1 h2 h3 h4 h5 h6 h7 v n xs hown ad m c news hn hc h1c b1 b2 hb;have h8:=X7t (P:=P) w base t o.type e i z size bytes h1 h2 h3 h4 h5 h6 h7 v n xs hown ad m c news hn hc h1c b1 b2 hb v' w' b;unfold Oper.wp;simp [execOp,hop,resolve,invoke,builtin,hs,hx,b,Result.andThen];exact hK v' w' r1 r2 h8
def OnlyO(v:Value)(w w':World):Prop:=Below 0 w w'∧∀j,j<w.heap.size→some j≠v.ownBlock→w'.heap[j]? =w.heap[j]?
theorem XnQ{v:Value}{w w':World}(hb:Below w.heap.size w w'):OnlyO v w w':=⟨hb.mono (Nat.zero_le _),fun j hj _=>hb.block j hj⟩
theorem Xes{B:Nat}{v:Value}{l:List Int}{w0 w w1:World}(h:OnlyO v w w1)(ho:OwnI B v l w)(hB:B≤w.heap.size)(hb:Below B w0 w):Below B w0 w1:=
 hb.trans ⟨h.1.os,h.1.tape,h.1.output,h.1.size,fun j hj=>h.2 j (by omega) (Xe4 ho hj)⟩
theorem Xet{B j:Nat}{v:Value}{l:List Int}{cs:Array Value}{T:TypeId}{w w1:World}(h:OnlyO v w w1)(hT:T≠3)(ho:OwnI B v l w)(hb:Blk w j cs T):Blk w1 j cs T:=by
 unfold Blk at hb ⊢;rw[h.2 j (by rcases Nat.lt_or_ge j w.heap.size with h | h;exact h;exact absurd (Array.getElem?_eq_some_iff.1 hb).1 (by omega)) ?_]
 ·exact hb
 ·intro e;rcases ho.2 with⟨rfl,_⟩ | ⟨g,cap,a,rfl,_,hg,_⟩
  ·cases e
  ·cases e;rw[hb] at hg;injection hg with hg;injection hg with _ hg;exact hT hg
theorem X2q{B b:Nat}{v:Value}{l:List Int}{w:World}{cs:Array Value}{T:TypeId}(hT:T≠3)(h:OwnI B v l w)(hb:Blk w b cs T):v.ownBlock≠some b:=by
 intro e;rcases h.2 with⟨rfl,_⟩ | ⟨g,cap,a,rfl,_,hg,_⟩
 ·cases e
 ·cases e;unfold Blk at hb;rw[hb] at hg;injection hg with hg;injection hg with _ hg;exact hT hg
theorem Xbd(w:World)(v:Value)(T:TypeId): ∀ (j:Nat) (u:Value),[v][j]? =some u→(w.alloc (.cells #[v] T)).cell? ((⟨w.heap.size,0,none⟩:Addr).add j)=some u:=by
 intro j u hu;rcases j with _ | j
 ·simp at hu;subst hu;exact X00 (X0g w _ _) 0 _ rfl
 ·simp at hu
theorem X53{v:Value}{b:Nat}(h:v.ownBlock≠some b):v.ownBlock=none∨v.ownBlock≠some b:= .inr h
theorem X5I{w:World}{k m:Nat}{a b c d e x0 x1 x2 x3:Value}{T T':TypeId}(h:Blk w k #[a,b,c,d,e] T)(h':Blk w m #[x0,x1,x2,x3] T'):w.cell? ⟨k,0,none⟩=some a∧w.cell? ⟨m,0,none⟩=some x0∧w.cell? ⟨m,1,none⟩=some x1∧w.cell? ⟨m,2,none⟩=some x2∧w.cell? ⟨m,3,none⟩=some x3:=
 ⟨X00 h 0 _ rfl,X00 h' 0 _ rfl,X00 h' 1 _ rfl,X00 h' 2 _ rfl,X00 h' 3 _ rfl⟩
theorem X2K:44≠3:=by decide
theorem Xkd:42≠3:=by decide
structure Bhd (B:Nat) (v:Value) (c:List Int) (q:(List Int × Clu.CS) × List Int) (va vb:Value) (w w':World):Prop where
 own:OwnI B va q.1.1 w'
 told:(vb=v∧q.2=c∧OwnI B v c w'∧(∀k,va.ownBlock=some k→w.heap.size≤k))∨(vb= .slice none 0 0∧q.2= []∧Lies va v w)
 only:OnlyO v w w'
theorem Xv6{c:List Int}{s:Clu.CS}{r:Int}(h:c≠ []∧(Clu.endsI s r=true∨c.length=32)):Sgm.stepI c s r=(([r],Clu.nextI s r),c):=by
 unfold Sgm.stepI;rw[if_pos h]
theorem Xv7{c:List Int}{s:Clu.CS}{r:Int}(h: ¬(c≠ []∧(Clu.endsI s r=true∨c.length=32))):Sgm.stepI c s r=((c++ [r],Clu.nextI s r),[]):=by
 unfold Sgm.stepI;rw[if_neg h]
theorem XfY(B:Nat)(v:Value)(c:List Int)(s:Clu.CS)(r:Int)(w:World)(hl:c.length≤32)(hv:OwnI B v c w)(hB:B≤w.heap.size):
 Calls Tryz.prog 146 #[sgV v s, .int .i64 r] w fun e w'=>∃va vb,e= .returned (.tuple #[sgV va (Sgm.stepI c s r).1.2,vb])∧Bhd B v c (Sgm.stepI c s r) va vb w w':=by
 obtain⟨i0,hi,ac,ad,ae⟩:=info_parts X2p;have t:=fun W=>XcC s r W;have o:=fun W=>XcB s r W;obtain⟨q,hq⟩: ∃q,Sgm.stepI c s r=q:=⟨_,rfl⟩;have G: ∀h:c≠ []∧(Clu.endsI s r=true∨c.length=32),q=(([r],Clu.nextI s r),c):=fun h=>hq ▸ Xv6 h;have H: ∀h: ¬(c≠ []∧(Clu.endsI s r=true∨c.length=32)),q=((c++ [r],Clu.nextI s r),[]):=fun h=>hq ▸ Xv7 h;rw[hq];obtain⟨N,hN⟩: ∃N,Clu.nextI s r=N:=⟨_,rfl⟩;obtain⟨E,hE⟩: ∃E,Clu.endsI s r=E:=⟨_,rfl⟩;rw[hN] at t G H;rw[hE] at o G H;obtain⟨p,cap,rfl⟩:=X0b (X0a hv);obtain⟨on,k,pi,od⟩:=s;obtain⟨g,nk,i,f⟩:=N;unfold csV at t o;unfold sgV;dsimp only at t o G H ⊢
 have a4:=X0g w #[.slice p c.length cap, .bool on, .int .i64 k, .bool pi, .bool od] 44;have u:=X0l a4 (.cells #[.slice none 0 0, .bool false, .int .i64 0, .bool false, .bool false] 44);have I:=X0g (w.alloc (.cells #[.slice p c.length cap, .bool on, .int .i64 k, .bool pi, .bool od] 44)) #[.slice none 0 0, .bool false, .int .i64 0, .bool false, .bool false] 44;rw[show (w.alloc (.cells #[.slice p c.length cap, .bool on, .int .i64 k, .bool pi, .bool od] 44)).heap.size=w.heap.size+1 by simp] at I
 have T:Below w.heap.size w ((w.alloc (.cells #[.slice p c.length cap, .bool on, .int .i64 k, .bool pi, .bool od] 44)).alloc (.cells #[.slice none 0 0, .bool false, .int .i64 0, .bool false, .bool false] 44)):=(X04 w _).alloc (by simp) _;obtain⟨W,hW⟩: ∃W,(w.alloc (.cells #[.slice p c.length cap, .bool on, .int .i64 k, .bool pi, .bool od] 44)).alloc (.cells #[.slice none 0 0, .bool false, .int .i64 0, .bool false, .bool false] 44)=W:=⟨_,rfl⟩;rw[hW] at u I T;have ab:=hid (X0x hv T);replace u:=hid u;replace I:=hid I;replace T:=hid T;replace hW:=hid hW;replace G:=hid G;replace H:=hid H
 replace t:=hid t;replace o:=hid o;replace hv:=hid hv;clear a4 hN hE hq;go_enter Tryz.func146,Tryz.ntmps146;go_upto_region 1 with(fail);rw[hW.out];have b1:=X00 u.out 1 _ rfl;have b2:=X00 u.out 2 _ rfl;have b3:=X00 u.out 3 _ rfl;have b4:=X00 u.out 4 _ rfl;go_wp2_with fail;refine(t.out _).mono ?_;rintro e w2 ⟨rfl,M⟩;have x:=X02 u.out M;have a7:=hid (X02 I.out M);have aa:=hid (X0x ab.out M);replace M:=hid (T.out.trans (M.mono T.out.size));have c0:=X00 x 0 _ rfl;have c1:=X00 x 1 _ rfl;have c2:=X00 x 2 _ rfl;have c3:=X00 x 3 _ rfl;have c4:=X00 x 4 _ rfl;replace x:=hid x;clear b1 b2 b3 b4
 go_upto_region 2 with(fail);have a2:=X0g w2 #[.bool g, .int .i64 nk, .bool i, .bool f] 42;have z:=X0l x.out (.cells #[.bool g, .int .i64 nk, .bool i, .bool f] 42);have P:=X0l a7.out (.cells #[.bool g, .int .i64 nk, .bool i, .bool f] 42);have R:=X0B aa.out (.cells #[.bool g, .int .i64 nk, .bool i, .bool f] 42);have F:Below w.heap.size w (w2.alloc (.cells #[.bool g, .int .i64 nk, .bool i, .bool f] 42)):=M.out.alloc M.out.size _;generalize ag:w2.alloc (.cells #[.bool g, .int .i64 nk, .bool i, .bool f] 42)=wz at *
 generalize ah:w2.heap.size=kn at *
 have A:w.heap.size+1<kn:=by have:=X1h a7.out;omega
 clear ag x a7 aa M ab T u I hW c0 c1 c2 c3 c4 t;have c0:=X00 z 0 _ rfl;have c1:=X00 z 1 _ rfl;have c2:=X00 z 2 _ rfl;have c3:=X00 z 3 _ rfl;have c4:=X00 z 4 _ rfl;have a9:c= []↔c.length=0:=by cases c <;> simp
 obtain⟨n,hn⟩: ∃n,c.length=n:=⟨_,rfl⟩;simp only[ne_eq,a9,hn] at G H hl z P R c0 hv ⊢;replace hn:=hid hn;replace z:=hid z;replace a2:=hid a2;replace P:=hid P;replace R:=hid R;replace F:=hid F;replace A:=hid A;replace G:=hid G;replace H:=hid H;replace hB:=hid hB;clear a9;rcases Nat.eq_zero_or_pos n with rfl | h0
 ·have x3:=z;have y3:=a2;have r3:=P;have v3:=R;have y:=F;clear z a2 P R F;generalize wz=w3 at *
  go_wp2_with fail;refine wp_region_held_drew (S:=fun w'=>w'.cell? ⟨w.heap.size,0,none⟩=some (.slice p 0 cap)∧w'.cell? ⟨kn,0,none⟩=some (.bool g)∧w'.cell? ⟨kn,1,none⟩=some (.int .i64 nk)∧w'.cell? ⟨kn,2,none⟩=some (.bool i)∧w'.cell? ⟨kn,3,none⟩=some (.bool f)) (by kernel_rfl) (X5I x3.out y3.out) (fun hS=>?_);refine' tk 0 rfl hS ?_;try simp only[putA]
  refine' tk 1 rfl hS ?_;try simp only[putA]
  refine' tk 2 rfl hS ?_;try simp only[putA]
  refine' tk 5 rfl hS ?_;try simp only[putA]
  refine rdy 3 rfl fun K hK=>?_;go_simp;go_wp2_with fail;refine hK.out _ _ (X5I (X0l (w:=w3.drew) x3.out _) (X0l (w:=w3.drew) y3.out _)) (fun hSn=>?_);clear hS;have hS:=hSn;clear hSn;clear hK K;try simp only[putA]
  have o4:=hid (X0B (Xfv v3.out 1) (.cells #[.int .i64 r] 3));refine rdy 4 rfl fun K hK=>?_;refine X6W rfl _ _ 24 rfl B 3 i0 (.int .i64 0) 1 8 Tryz.underlying24 hi ac ad ae rfl (by decide) (.slice p 0 cap) _ _ rfl o4.out ⟨w3.heap.size,0,none⟩ 1 1 [.int .i64 r] rfl rfl (Xbd w3.drew (.int .i64 r) 3) (X0u [r]) (by have:=hn.out;unfold maxLen;omega) (by have:=hn.out;omega) (by have:=hB.out;have:=y.out.size;simp;omega) (fun v5 w5 D a m=>?_);have o5:=hid (X0i (l:=c++ [r]) D (by simp) (by simp));obtain⟨p5,q5,a8⟩:=X0b (X0a o5.out);obtain⟨m5,U⟩: ∃m5,(c++ [r]).length=m5:=⟨_,rfl⟩;rw[U] at a8;subst a8
  replace U:=hid U;have x5:=hid (X2B (X0l (w:=w3.drew) x3.out _) a (fun e=>X2q X2K v3.out x3.out e.symm));have y5:=hid (X2B (X0l (w:=w3.drew) y3.out _) a (fun e=>X2q Xkd v3.out y3.out e.symm));refine hK.out _ _ (X5I x5.out y5.out) (fun hSn=>?_);clear hS hK;have hS:=hSn;clear hSn;try simp only[putA]
  replace a:=hid a;replace m:=hid m;clear D;refine' tk 6 rfl hS ?_;try simp only[putA]
  have r5:=X2B (X0l (w:=w3.drew) r3.out _) a.out (fun e=>X2q X2K v3.out r3.out e.symm);have g0:=X00 r5 0 _ rfl;have g1:=X00 r5 1 _ rfl;have g2:=X00 r5 2 _ rfl;have g3:=X00 r5 3 _ rfl;have g4:=X00 r5 4 _ rfl;have f0:=X06 r5 0;have f1:=X06 r5 1;have f2:=X06 r5 2;have f3:=X06 r5 3;have f4:=X06 r5 4;have n5:=hid (X5H r5 (.slice p5 m5 q5) (.bool g) (.int .i64 nk) (.bool i) (.bool f));replace r5:=hid r5;refine rdy 7 rfl fun K hK=>?_;go_simp;go_wp2_with fail
  refine hK.out _ _ (X5I (X4Q x5.out _ _ _ _ _ (by omega)) (X14 (X5V y5.out _ _ _ _ (by have:=A.out;omega)) 4 _ (by have:=A.out;omega))) (fun hSn=>?_);clear hS;have hS:=hSn;clear hSn;clear hK K;try simp only[putA]
  refine' tk 8 rfl hS ?_;try simp only[putA]
  refine wpAnyH_done (by kernel_rfl) ?_ _;go_wp2_with fail;have d0:=X00 n5.out 0 _ rfl;have d1:=X00 n5.out 1 _ rfl;have d2:=X00 n5.out 2 _ rfl;have d3:=X00 n5.out 3 _ rfl;have d4:=X00 n5.out 4 _ rfl;have V:=H.out (by simp);rw[V];dsimp only
  have O:=hB.out;have b:=y.out;have L:=hn.out;have a0:=X1h r3.out;have C:=a.out;refine bodyPost_ret (v:= .tuple #[.agg #[.slice p5 m5 q5, .bool g, .int .i64 nk, .bool i, .bool f], .slice none 0 0]) ?_ rfl ⟨_,_,rfl,?_,?_,?_,?_⟩
  ·simp [results,Tryz.results146,go_sem,d0,d1,d2,d3,d4]
  ·exact X4F o5.out (X53 (X2q X2K o5.out r5.out)) _ _ _ _ _
  ·rw[L];refine .inr ⟨rfl,rfl,?_⟩;rcases m.out with h | ⟨j,h1,h2⟩
   ·exact .inl h
   ·exact .inr ⟨j,h1,by have:=b.size;simp at h2;omega⟩
  ·exact X2W (n:=0) ⟨C.os.trans (b.os),C.tape.trans b.tape,C.output.trans b.output,by have:=C.size;have:=b.size;simp at *;omega,fun j hj=>by omega⟩ (Nat.zero_le _) _ _ _ _ _
  ·intro j hj a5;rw[L] at a5;have e1:(put5 w5 (w.heap.size+1) (.slice p5 m5 q5) (.bool g) (.int .i64 nk) (.bool i) (.bool f)).heap[j]? =w5.heap[j]? :=(X2W (n:=w.heap.size+1) (Below.refl _ w5) (Nat.le_refl _) _ _ _ _ _).block j (by omega);have af:=b.size;rw[e1,C.block j (by simp;omega) a5];exact(Below.heap_alloc w3 _ j (by omega)).trans (b.block j hj)
 ·have t0:decide ((0:Int)<(n:Int))=true:=by simp;omega
  rcases E with _ | _
  ·by_cases h32:n=32
   ·subst h32;go_wp2_with (go_at_call 177;refine(o.out _).mono ?_;rintro e w3 ⟨rfl,d⟩;have x3:=X02 z.out d;have y3:=hid (X02 a2.out d);have r3:=hid (X02 P.out d);have v3:=hid (X0x R.out d);have y:=hid (F.out.trans (d.mono F.out.size));have d0:=X00 x3 0 _ rfl;replace x3:=hid x3;clear d);refine wp_region_held_drew (S:=fun w'=>w'.cell? ⟨w.heap.size,0,none⟩=some (.slice p 32 cap)∧w'.cell? ⟨kn,0,none⟩=some (.bool g)∧w'.cell? ⟨kn,1,none⟩=some (.int .i64 nk)∧w'.cell? ⟨kn,2,none⟩=some (.bool i)∧w'.cell? ⟨kn,3,none⟩=some (.bool f)) (by kernel_rfl) (X5I x3.out y3.out) (fun hS=>?_);refine' tk 0 rfl hS ?_
    try simp only[putA]
    refine' tk 2 rfl hS ?_;try simp only[putA]
    refine' tk 4 rfl hS ?_;try simp only[putA]
    refine' tk 5 rfl hS ?_;try simp only[putA]
    have x6:=hid (show Blk (w3.alloc (.cells #[.int .i64 r] 3)).drew _ _ _ from X0l x3.out (.cells #[.int .i64 r] 3));have y6:=hid (show Blk (w3.alloc (.cells #[.int .i64 r] 3)).drew _ _ _ from X0l y3.out (.cells #[.int .i64 r] 3));refine rdy 1 rfl fun K hK=>?_;go_simp;go_wp2_with fail;refine hK.out _ _ (X5I x6.out y6.out) (fun hSn=>?_);clear hS;have hS:=hSn;clear hSn;clear hK K;try simp only[putA]
    have r6:=hid (show Blk (w3.alloc (.cells #[.int .i64 r] 3)).drew _ _ _ from X0l r3.out (.cells #[.int .i64 r] 3));have a3:=hid (show OwnI B (.slice p 32 cap) c (w3.alloc (.cells #[.int .i64 r] 3)).drew from X0B v3.out (.cells #[.int .i64 r] 3));have b6:=hid (show Below w.heap.size w (w3.alloc (.cells #[.int .i64 r] 3)).drew from(y.out.alloc y.out.size (.cells #[.int .i64 r] 3)).drew)
    have o6:=hid (show OwnI w3.heap.size (.slice (some ⟨w3.heap.size,0,none⟩) 1 1) [r] (w3.alloc (.cells #[.int .i64 r] 3)).drew from X0H w3.heap.size w3 [r] #[.int .i64 r] w3.heap.size 1 rfl (Nat.le_refl _) rfl rfl (by unfold maxLen;omega));obtain⟨w4,a1⟩: ∃w4,(w3.alloc (.cells #[.int .i64 r] 3)).drew=w4:=⟨_,rfl⟩;rw[a1] at hS x6 y6 r6 b6 o6 a3 ⊢;replace a1:=hid a1;refine' tk 3 rfl hS ?_;try simp only[putA]
    have r5:=r6.out;have g0:=X00 r5 0 _ rfl;have g1:=X00 r5 1 _ rfl;have g2:=X00 r5 2 _ rfl;have g3:=X00 r5 3 _ rfl;have g4:=X00 r5 4 _ rfl;have f0:=X06 r5 0;have f1:=X06 r5 1;have f2:=X06 r5 2;have f3:=X06 r5 3;have f4:=X06 r5 4;have n5:=hid (X5H r5 (.slice (some ⟨w3.heap.size,0,none⟩) 1 1) (.bool g) (.int .i64 nk) (.bool i) (.bool f));replace r5:=hid r5;refine rdy 6 rfl fun K hK=>?_;go_simp;go_wp2_with fail;refine hK.out _ _ (X5I (X4Q x6.out _ _ _ _ _ (by omega)) (X4Q y6.out _ _ _ _ _ (by have:=A.out;omega))) (fun hSn=>?_);clear hS;have hS:=hSn;clear hSn;clear hK K;try simp only[putA]
    refine' tk 7 rfl hS ?_;try simp only[putA]
    refine wpAnyH_done (by kernel_rfl) ?_ _;go_wp2_with fail;have d0:=X00 n5.out 0 _ rfl;have d1:=X00 n5.out 1 _ rfl;have d2:=X00 n5.out 2 _ rfl;have d3:=X00 n5.out 3 _ rfl;have d4:=X00 n5.out 4 _ rfl;have V:=G.out (by simp);rw[V];dsimp only
    have O:=hB.out;have b:=y.out;have L:=hn.out;have a0:=X1h r3.out;refine bodyPost_ret (v:= .tuple #[.agg #[.slice (some ⟨w3.heap.size,0,none⟩) 1 1, .bool g, .int .i64 nk, .bool i, .bool f], .slice p 32 cap]) ?_ rfl ⟨_,_,rfl,?_,?_,?_⟩
    ·simp [results,Tryz.results146,go_sem,d0,d1,d2,d3,d4]
    ·exact X0w (X4F o6.out (X53 (X2q X2K o6.out r6.out)) _ _ _ _ _) (Nat.le_trans O b.size)
    ·rw[L];exact .inl ⟨rfl,rfl,X4F a3.out (X53 (X2q X2K a3.out r6.out)) _ _ _ _ _,fun k hk=>by have a6:some w3.heap.size=some k:=hk;injection a6 with a6;have:=b.size;omega⟩
    ·exact XnQ (X2W b6.out (Nat.le_succ _) _ _ _ _ _)
   ·have t1:decide ((n:Int)=32)=false:=by simp;omega
    go_wp2_with (go_at_call 177;refine(o.out _).mono ?_;rintro e w3 ⟨rfl,d⟩;have x3:=X02 z.out d;have y3:=hid (X02 a2.out d);have r3:=hid (X02 P.out d);have v3:=hid (X0x R.out d);have y:=hid (F.out.trans (d.mono F.out.size));have d0:=X00 x3 0 _ rfl;replace x3:=hid x3;clear d);refine wp_region_held_drew (S:=fun w'=>w'.cell? ⟨w.heap.size,0,none⟩=some (.slice p n cap)∧w'.cell? ⟨kn,0,none⟩=some (.bool g)∧w'.cell? ⟨kn,1,none⟩=some (.int .i64 nk)∧w'.cell? ⟨kn,2,none⟩=some (.bool i)∧w'.cell? ⟨kn,3,none⟩=some (.bool f)) (by kernel_rfl) (X5I x3.out y3.out) (fun hS=>?_);refine' tk 0 rfl hS ?_
    try simp only[putA]
    refine' tk 1 rfl hS ?_;try simp only[putA]
    refine' tk 2 rfl hS ?_;try simp only[putA]
    refine' tk 5 rfl hS ?_;try simp only[putA]
    refine rdy 3 rfl fun K hK=>?_;go_simp;go_wp2_with fail;refine hK.out _ _ (X5I (X0l (w:=w3.drew) x3.out _) (X0l (w:=w3.drew) y3.out _)) (fun hSn=>?_);clear hS;have hS:=hSn;clear hSn;clear hK K;try simp only[putA]
    have o4:=hid (X0B (Xfv v3.out 1) (.cells #[.int .i64 r] 3));refine rdy 4 rfl fun K hK=>?_;refine X6W rfl _ _ 24 rfl B 3 i0 (.int .i64 0) 1 8 Tryz.underlying24 hi ac ad ae rfl (by decide) (.slice p n cap) _ _ rfl o4.out ⟨w3.heap.size,0,none⟩ 1 1 [.int .i64 r] rfl rfl (Xbd w3.drew (.int .i64 r) 3) (X0u [r]) (by have:=hn.out;unfold maxLen;omega) (by have:=hn.out;omega) (by have:=hB.out;have:=y.out.size;simp;omega) (fun v5 w5 D a m=>?_);have o5:=hid (X0i (l:=c++ [r]) D (by simp) (by simp));obtain⟨p5,q5,a8⟩:=X0b (X0a o5.out);obtain⟨m5,U⟩: ∃m5,(c++ [r]).length=m5:=⟨_,rfl⟩;rw[U] at a8;subst a8
    replace U:=hid U;have x5:=hid (X2B (X0l (w:=w3.drew) x3.out _) a (fun e=>X2q X2K v3.out x3.out e.symm));have y5:=hid (X2B (X0l (w:=w3.drew) y3.out _) a (fun e=>X2q Xkd v3.out y3.out e.symm));refine hK.out _ _ (X5I x5.out y5.out) (fun hSn=>?_);clear hS hK;have hS:=hSn;clear hSn;try simp only[putA]
    replace a:=hid a;replace m:=hid m;clear D;refine' tk 6 rfl hS ?_;try simp only[putA]
    have r5:=X2B (X0l (w:=w3.drew) r3.out _) a.out (fun e=>X2q X2K v3.out r3.out e.symm);have g0:=X00 r5 0 _ rfl;have g1:=X00 r5 1 _ rfl;have g2:=X00 r5 2 _ rfl;have g3:=X00 r5 3 _ rfl;have g4:=X00 r5 4 _ rfl;have f0:=X06 r5 0;have f1:=X06 r5 1;have f2:=X06 r5 2;have f3:=X06 r5 3;have f4:=X06 r5 4;have n5:=hid (X5H r5 (.slice p5 m5 q5) (.bool g) (.int .i64 nk) (.bool i) (.bool f));replace r5:=hid r5;refine rdy 7 rfl fun K hK=>?_;go_simp;go_wp2_with fail
    refine hK.out _ _ (X5I (X4Q x5.out _ _ _ _ _ (by omega)) (X14 (X5V y5.out _ _ _ _ (by have:=A.out;omega)) 4 _ (by have:=A.out;omega))) (fun hSn=>?_);clear hS;have hS:=hSn;clear hSn;clear hK K;try simp only[putA]
    refine' tk 8 rfl hS ?_;try simp only[putA]
    refine wpAnyH_done (by kernel_rfl) ?_ _;go_wp2_with fail;have d0:=X00 n5.out 0 _ rfl;have d1:=X00 n5.out 1 _ rfl;have d2:=X00 n5.out 2 _ rfl;have d3:=X00 n5.out 3 _ rfl;have d4:=X00 n5.out 4 _ rfl;have V:=H.out (by simp;omega);rw[V];dsimp only
    have O:=hB.out;have b:=y.out;have L:=hn.out;have a0:=X1h r3.out;have C:=a.out;refine bodyPost_ret (v:= .tuple #[.agg #[.slice p5 m5 q5, .bool g, .int .i64 nk, .bool i, .bool f], .slice none 0 0]) ?_ rfl ⟨_,_,rfl,?_,?_,?_,?_⟩
    ·simp [results,Tryz.results146,go_sem,d0,d1,d2,d3,d4]
    ·exact X4F o5.out (X53 (X2q X2K o5.out r5.out)) _ _ _ _ _
    ·rw[L];refine .inr ⟨rfl,rfl,?_⟩;rcases m.out with h | ⟨j,h1,h2⟩
     ·exact .inl h
     ·exact .inr ⟨j,h1,by have:=b.size;simp at h2;omega⟩
    ·exact X2W (n:=0) ⟨C.os.trans (b.os),C.tape.trans b.tape,C.output.trans b.output,by have:=C.size;have:=b.size;simp at *;omega,fun j hj=>by omega⟩ (Nat.zero_le _) _ _ _ _ _
    ·intro j hj a5;rw[L] at a5;have e1:(put5 w5 (w.heap.size+1) (.slice p5 m5 q5) (.bool g) (.int .i64 nk) (.bool i) (.bool f)).heap[j]? =w5.heap[j]? :=(X2W (n:=w.heap.size+1) (Below.refl _ w5) (Nat.le_refl _) _ _ _ _ _).block j (by omega);have af:=b.size;rw[e1,C.block j (by simp;omega) a5];exact(Below.heap_alloc w3 _ j (by omega)).trans (b.block j hj)
  ·go_wp2_with (go_at_call 177;refine(o.out _).mono ?_;rintro e w3 ⟨rfl,d⟩;have x3:=X02 z.out d;have y3:=hid (X02 a2.out d);have r3:=hid (X02 P.out d);have v3:=hid (X0x R.out d);have y:=hid (F.out.trans (d.mono F.out.size));have d0:=X00 x3 0 _ rfl;replace x3:=hid x3;clear d);refine wp_region_held_drew (S:=fun w'=>w'.cell? ⟨w.heap.size,0,none⟩=some (.slice p n cap)∧w'.cell? ⟨kn,0,none⟩=some (.bool g)∧w'.cell? ⟨kn,1,none⟩=some (.int .i64 nk)∧w'.cell? ⟨kn,2,none⟩=some (.bool i)∧w'.cell? ⟨kn,3,none⟩=some (.bool f)) (by kernel_rfl) (X5I x3.out y3.out) (fun hS=>?_);refine' tk 0 rfl hS ?_
   try simp only[putA]
   refine' tk 2 rfl hS ?_;try simp only[putA]
   refine' tk 4 rfl hS ?_;try simp only[putA]
   refine' tk 5 rfl hS ?_;try simp only[putA]
   have x6:=hid (show Blk (w3.alloc (.cells #[.int .i64 r] 3)).drew _ _ _ from X0l x3.out (.cells #[.int .i64 r] 3));have y6:=hid (show Blk (w3.alloc (.cells #[.int .i64 r] 3)).drew _ _ _ from X0l y3.out (.cells #[.int .i64 r] 3));refine rdy 1 rfl fun K hK=>?_;go_simp;go_wp2_with fail;refine hK.out _ _ (X5I x6.out y6.out) (fun hSn=>?_);clear hS;have hS:=hSn;clear hSn;clear hK K;try simp only[putA]
   have r6:=hid (show Blk (w3.alloc (.cells #[.int .i64 r] 3)).drew _ _ _ from X0l r3.out (.cells #[.int .i64 r] 3));have a3:=hid (show OwnI B (.slice p n cap) c (w3.alloc (.cells #[.int .i64 r] 3)).drew from X0B v3.out (.cells #[.int .i64 r] 3));have b6:=hid (show Below w.heap.size w (w3.alloc (.cells #[.int .i64 r] 3)).drew from(y.out.alloc y.out.size (.cells #[.int .i64 r] 3)).drew)
   have o6:=hid (show OwnI w3.heap.size (.slice (some ⟨w3.heap.size,0,none⟩) 1 1) [r] (w3.alloc (.cells #[.int .i64 r] 3)).drew from X0H w3.heap.size w3 [r] #[.int .i64 r] w3.heap.size 1 rfl (Nat.le_refl _) rfl rfl (by unfold maxLen;omega));obtain⟨w4,a1⟩: ∃w4,(w3.alloc (.cells #[.int .i64 r] 3)).drew=w4:=⟨_,rfl⟩;rw[a1] at hS x6 y6 r6 b6 o6 a3 ⊢;replace a1:=hid a1;refine' tk 3 rfl hS ?_;try simp only[putA]
   have r5:=r6.out;have g0:=X00 r5 0 _ rfl;have g1:=X00 r5 1 _ rfl;have g2:=X00 r5 2 _ rfl;have g3:=X00 r5 3 _ rfl;have g4:=X00 r5 4 _ rfl;have f0:=X06 r5 0;have f1:=X06 r5 1;have f2:=X06 r5 2;have f3:=X06 r5 3;have f4:=X06 r5 4;have n5:=hid (X5H r5 (.slice (some ⟨w3.heap.size,0,none⟩) 1 1) (.bool g) (.int .i64 nk) (.bool i) (.bool f));replace r5:=hid r5;refine rdy 6 rfl fun K hK=>?_;go_simp;go_wp2_with fail;refine hK.out _ _ (X5I (X4Q x6.out _ _ _ _ _ (by omega)) (X4Q y6.out _ _ _ _ _ (by have:=A.out;omega))) (fun hSn=>?_);clear hS;have hS:=hSn;clear hSn;clear hK K;try simp only[putA]
   refine' tk 7 rfl hS ?_;try simp only[putA]
   refine wpAnyH_done (by kernel_rfl) ?_ _;go_wp2_with fail;have d0:=X00 n5.out 0 _ rfl;have d1:=X00 n5.out 1 _ rfl;have d2:=X00 n5.out 2 _ rfl;have d3:=X00 n5.out 3 _ rfl;have d4:=X00 n5.out 4 _ rfl;have V:=G.out (by simp;omega);rw[V];dsimp only
   have O:=hB.out;have b:=y.out;have L:=hn.out;have a0:=X1h r3.out;refine bodyPost_ret (v:= .tuple #[.agg #[.slice (some ⟨w3.heap.size,0,none⟩) 1 1, .bool g, .int .i64 nk, .bool i, .bool f], .slice p n cap]) ?_ rfl ⟨_,_,rfl,?_,?_,?_⟩
   ·simp [results,Tryz.results146,go_sem,d0,d1,d2,d3,d4]
   ·exact X0w (X4F o6.out (X53 (X2q X2K o6.out r6.out)) _ _ _ _ _) (Nat.le_trans O b.size)
   ·rw[L];exact .inl ⟨rfl,rfl,X4F a3.out (X53 (X2q X2K a3.out r6.out)) _ _ _ _ _,fun k hk=>by have a6:some w3.heap.size=some k:=hk;injection a6 with a6;have:=b.size;omega⟩
   ·exact XnQ (X2W b6.out (Nat.le_succ _) _ _ _ _ _)
theorem Xy6(l:List Int)(s:Clu.CS):(wellS l s).1.length≤32:=by
 have h:=Xv2 l s;unfold Sgm.saneB at h;simp only[Bool.and_eq_true,decide_eq_true_eq] at h;exact h.1.1
theorem Xai{B:Nat}{v va vb:Value}{c:List Int}{q:(List Int × Clu.CS) × List Int}{w w':World}(h:Bhd B v c q va vb w w'):OwnI B vb q.2 w':=by
 rcases h.told with⟨rfl,h2,h3,_⟩ | ⟨rfl,h2,_⟩
 ·rw[h2];exact h3
 ·rw[h2];exact X0O _ _
def XyR(q:(List Int × Clu.CS) × List Int)(w:World)(e:Ending)(w':World):Prop:=∃va vb,e= .returned (.tuple #[sgV va q.1.2,vb])∧OwnI w.heap.size va q.1.1 w'∧OwnI w.heap.size vb q.2 w'∧Below w.heap.size w w'
theorem Xqm(v:Value)(l:List Int)(s:Clu.CS)(r:Int)(w:World)(hl:l.length≤100000)(hv:RI w v l):Calls Tryz.prog 112 #[sgV v s, .int .i64 r] w (XyR (Sgm.feedI l s r) w):=by
 rw[Xv3];have y:=Xy6 l s;obtain⟨p,cap,rfl⟩:=X0b hv;obtain⟨⟨L,S⟩,hL⟩: ∃L,wellS l s=L:=⟨_,rfl⟩;rw[hL] at y ⊢;obtain⟨on,k,pi,od⟩:=s;have j:=X0g w #[.slice p l.length cap, .bool on, .int .i64 k, .bool pi, .bool od] 44;have b:=X0l j (.cells #[.slice none 0 0, .bool false, .int .i64 0, .bool false, .bool false] 44);have g:=X0g (w.alloc (.cells #[.slice p l.length cap, .bool on, .int .i64 k, .bool pi, .bool od] 44)) #[.slice none 0 0, .bool false, .int .i64 0, .bool false, .bool false] 44
 rw[show (w.alloc (.cells #[.slice p l.length cap, .bool on, .int .i64 k, .bool pi, .bool od] 44)).heap.size=w.heap.size+1 by simp] at g;have h:Below w.heap.size w ((w.alloc (.cells #[.slice p l.length cap, .bool on, .int .i64 k, .bool pi, .bool od] 44)).alloc (.cells #[.slice none 0 0, .bool false, .int .i64 0, .bool false, .bool false] 44)):=(X04 w _).alloc (by simp) _;obtain⟨W,hW⟩: ∃W,(w.alloc (.cells #[.slice p l.length cap, .bool on, .int .i64 k, .bool pi, .bool od] 44)).alloc (.cells #[.slice none 0 0, .bool false, .int .i64 0, .bool false, .bool false] 44)=W:=⟨_,rfl⟩;have n:=X03 hv h
 rw[hW] at b g h n;have d:=Xbx (.slice p l.length cap) l ⟨on,k,pi,od⟩ W hl n;rw[hL] at d;have c:=fun B va W1=>XfY B va L S r W1 y;obtain⟨q,hq⟩: ∃q,Sgm.stepI L S r=q:=⟨_,rfl⟩;rw[hq] at c ⊢;obtain⟨⟨q1,N⟩,q2⟩:=q;obtain⟨H,sk,I,G⟩:=S;obtain⟨A,nk,C,z⟩:=N;unfold XyR;unfold sgV at d c ⊢;dsimp only at d c hL ⊢;replace b:=hid b;replace g:=hid g;replace h:=hid h;replace n:=hid n;replace hW:=hid hW;replace d:=hid d;replace c:=hid c;clear hv j hL hq;go_enter Tryz.func112,Tryz.ntmps112;go_upto_region 1 with(fail);rw[hW.out];have b0:=X00 b.out 0 _ rfl;have b1:=X00 b.out 1 _ rfl;have b2:=X00 b.out 2 _ rfl
 have b3:=X00 b.out 3 _ rfl;have b4:=X00 b.out 4 _ rfl;go_wp2_with fail;refine d.out.mono ?_;rintro e w2 ⟨va,rfl,i,m⟩;obtain⟨pa,qa,rfl⟩:=X0b (X0a i);have E:=hid (X02 g.out m);have o:=hid (h.out.trans (m.mono h.out.size));have F:=hid (show W.heap.size≤w2.heap.size from m.size);have u:=hid (show w.heap.size≤W.heap.size from h.out.size);replace i:=hid i;clear b0 b1 b2 b3 b4 m;go_wp2_with fail;refine(c.out W.heap.size _ _ i.out F.out).mono ?_;rintro e w3 ⟨vb,vt,rfl,f⟩;obtain⟨pb,qb,rfl⟩:=X0b (X0a f.own);obtain⟨pt,qt,rfl⟩:=X0b (X0a (Xai f));have a:=Xet f.only X2K i.out E.out
 have D:=hid (Xes f.only (X0w i.out u.out) o.out.size o.out);have x:=hid (Xai f);have t:=hid f.own;replace f:=hid f;have g0:=X00 a 0 _ rfl;have g1:=X00 a 1 _ rfl;have g2:=X00 a 2 _ rfl;have g3:=X00 a 3 _ rfl;have g4:=X00 a 4 _ rfl;have f0:=X06 a 0;have f1:=X06 a 1;have f2:=X06 a 2;have f3:=X06 a 3;have f4:=X06 a 4;dsimp only at x t;have n3:=hid (X5H a (.slice pb q1.length qb) (.bool A) (.int .i64 nk) (.bool C) (.bool z));replace a:=hid a;go_wp2_with fail;have d0:=X00 n3.out 0 _ rfl;have d1:=X00 n3.out 1 _ rfl;have d2:=X00 n3.out 2 _ rfl;have d3:=X00 n3.out 3 _ rfl;have d4:=X00 n3.out 4 _ rfl
 refine bodyPost_ret (v:= .tuple #[.agg #[.slice pb q1.length qb, .bool A, .int .i64 nk, .bool C, .bool z], .slice pt q2.length qt]) ?_ rfl ⟨_,_,rfl,?_,?_,?_⟩
 ·simp [results,Tryz.results112,go_sem,d0,d1,d2,d3,d4]
 ·exact X0w (X4F t.out (X53 (X2q X2K t.out a.out)) _ _ _ _ _) u.out
 ·exact X0w (X4F x.out (X53 (X2q X2K x.out a.out)) _ _ _ _ _) u.out
 ·exact X2W D.out (Nat.le_succ _) _ _ _ _ _
end Go.Proofs.YtkofnpkopbnocaaGreatDoor
