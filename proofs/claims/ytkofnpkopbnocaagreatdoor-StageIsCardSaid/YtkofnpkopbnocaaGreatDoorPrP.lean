import Derived.Test.YtkofnpkopbnocaaGreatDoorBasP
import Derived.Test.YtkofnpkopbnocaaGreatDoorMthP
import Derived.Deep.LoopGhost
import Derived.Deep.DeepCutAuto
set_option linter.unusedSimpArgs false
set_option linter.unusedVariables false
set_option maxRecDepth 100000
set_option maxHeartbeats 1600000
namespace Go.Proofs.YtkofnpkopbnocaaGreatDoor
open Go.RowKit Go.Lib
def XnG(w:World)(b:Nat)(T:List Prp.Row):Prop:=
 b<w.heap.size∧∀k (h:k<T.length),w.cell? ⟨b,k *3,none⟩=some (.int .i64 T[k].1)∧w.cell? ⟨b,k *3+1,none⟩=some (.int .i64 T[k].2.1)∧w.cell? ⟨b,k *3+2,none⟩=some (.int .i64 T[k].2.2)
theorem XBq{w w1:World}{b:Nat}{T:List Prp.Row}(h:XnG w b T)(hb:Below w.heap.size w w1):XnG w1 b T:=
 ⟨Nat.lt_of_lt_of_le h.1 hb.size,fun k hk=>by rw[hb.cell h.1,hb.cell h.1,hb.cell h.1];exact h.2 k hk⟩
theorem XBr{w:World}{b:Nat}{T:List Prp.Row}(h:XnG w b T)(k:Nat)(hk:k<T.length): ∃A B C:Int,T[k]=(A,B,C)∧w.cell? ⟨b,k *3,none⟩=some (.int .i64 A)∧w.cell? ⟨b,k *3+1,none⟩=some (.int .i64 B)∧w.cell? ⟨b,k *3+2,none⟩=some (.int .i64 C):=
 ⟨_,_,_,rfl,h.2 k hk⟩
def flat(T:List Prp.Row):List Value:=T.flatMap fun s=> [.int .i64 s.1, .int .i64 s.2.1, .int .i64 s.2.2]
theorem XAE(T:List Prp.Row)(k:Nat)(hk:k<T.length):(flat T)[k *3]? =some (.int .i64 T[k].1)∧(flat T)[k *3+1]? =some (.int .i64 T[k].2.1)∧(flat T)[k *3+2]? =some (.int .i64 T[k].2.2):=by
 induction T generalizing k with
 | nil=>simp at hk
 |
  cons s t ih=>
  cases k with
  | zero=>exact⟨rfl,rfl,rfl⟩
  |
   succ k=>
   have h:=ih k (by simpa using hk);have e:flat (s::t)= .int .i64 s.1:: .int .i64 s.2.1:: .int .i64 s.2.2::flat t:=rfl;rw[e];rw[show (k+1) *3=k *3+3 by omega];exact⟨h.1,h.2.1,h.2.2⟩
theorem XDD(w:World)(cs:Array Value)(t:TypeId)(T:List Prp.Row)(h:cs.toList=flat T):XnG (w.alloc (.cells cs t)) w.heap.size T:=by
 refine⟨by simp,fun k hk=>?_⟩;obtain⟨h0,h1,h2⟩:=XAE T k hk;rw[←h] at h0 h1 h2;simp only[Array.getElem?_toList] at h0 h1 h2;refine⟨?_,?_,?_⟩
 ·simpa using h0
 ·simpa using h1
 ·simpa using h2
def sideI(s:Prp.Row)(r:Int):Int:=if s.2.1<r then -1 else if r<s.1 then 1 else 0
theorem Xc9(a b c r:Int)(w:World):
 Calls Tryz.prog 214 #[.agg #[.int .i64 a, .int .i64 b, .int .i64 c], .int .i64 r] w fun e w'=>e= .returned (.int .i64 (sideI (a,b,c) r))∧Below w.heap.size w w':=by
 unfold sideI;by_cases h1:b<r
 ·simp only[if_pos h1];go_enter Tryz.func214,Tryz.ntmps214;go_wp2_with fail;go_ret;exact⟨rfl,X04 _ _⟩
 ·simp only[if_neg h1];have d:decide (b<r)=false:=by simp;omega
  by_cases h2:r<a
  ·simp only[if_pos h2];go_enter Tryz.func214,Tryz.ntmps214;go_wp2_with fail;go_ret;exact⟨rfl,X04 _ _⟩
  ·simp only[if_neg h2];have f:decide (r<a)=false:=by simp;omega
   go_enter Tryz.func214,Tryz.ntmps214;go_wp2_with fail;go_ret;exact⟨rfl,X04 _ _⟩
def BRes(T:List Prp.Row)(r:Int)(w:World)(e:Ending)(w':World):Prop:=
 e= .returned (.tuple #[.int .i64 (Prp.pos T r:Int), .bool (Prp.look T r).isSome])∧Below w.heap.size w w'
theorem Xej(T:List Prp.Row)(hs:Prp.Sorted T)(hn:T.length≤1000)(b:Nat)(r:Int)(w:World)(h:XnG w b T)(n:Nat)(k:n=T.length):
 Calls Tryz.prog 213 #[.slice (some ⟨b,0,none⟩) n n, .int .i64 r, .func (.func 214) #[] #[]] w (BRes T r w):=by
 have l:=Prp.Xtc T r;have u:n≤1000:=by omega
 rw[←k] at l;replace hs:=hid hs;replace h:=hid h;replace k:=hid k;obtain⟨p,hp⟩: ∃p,Prp.pos T r=p:=⟨_,rfl⟩;rw[hp] at l;replace hp:=hid hp;clear hn;go_enter Tryz.func213,Tryz.ntmps213;go_wp2_with fail;go_loopg [9,10] n (fun g i j wr=>∃x y:Nat,i= .int .i64 x∧j= .int .i64 y∧x≤p∧p≤y∧y≤n∧g=y - x∧Below w.heap.size w wr)
 case atStart=>exact⟨0,n,rfl,rfl,Nat.zero_le _,l,Nat.le_refl _,rfl,Below.refl _ _⟩
 case round=>
  obtain⟨x,y,rfl,rfl,hx,hy,t,rfl,a⟩:=hrel;by_cases hlt:x<y
  ·have o:(x:Int)<(y:Int):=by omega
   have hk:(x+y) / 2<n:=by omega
   obtain⟨A,B,C,hT,h0,h1,h2⟩:=XBr (XBq h.out a) ((x+y) / 2) (by rw[←k.out];exact hk);have d:=Prp.X57 hs.out r ((x+y) / 2) (by rw[←k.out];exact hk);rw[hT,hp.out] at d;replace hT:=hid hT;replace d:=hid d;replace a:=hid a;by_cases hB:B<r
   ·have hv:sideI (A,B,C) r<0:=by unfold sideI;simp only[if_pos hB];decide
    have s:=d.out.1 hB;go_wp2_with fail;refine(Xc9 _ _ _ _ _).mono ?_;rintro e w1 ⟨rfl,c⟩;replace c:=hid c;go_wp2_with fail;go_roundg (y - ((x+y) / 2+1))
    case measure=>omega
    case rel=>exact⟨(x+y) / 2+1,y,by go_num,rfl,by omega,hy,t,rfl,a.out.trans (c.out.mono a.out.size)⟩
   ·have hv:decide (sideI (A,B,C) r<0)=false:=by unfold sideI;simp only[if_neg hB];split <;> decide
    have s: ¬(x+y) / 2<p:=fun h=>hB (d.out.2 h);go_wp2_with fail;refine(Xc9 _ _ _ _ _).mono ?_;rintro e w1 ⟨rfl,c⟩;replace c:=hid c;go_wp2_with fail;go_roundg ((x+y) / 2 - x)
    case measure=>omega
    case rel=>exact⟨x,(x+y) / 2,rfl,by go_num,hx,by omega,by omega,rfl,a.out.trans (c.out.mono a.out.size)⟩
  ·obtain rfl:x=p:=by omega
   have o:decide ((x:Int)<(y:Int))=false:=by simp;omega
   by_cases hxn:x<n
   ·have q:(x:Int)<(n:Int):=by omega
    obtain⟨A,B,C,hT,h0,h1,h2⟩:=XBr (XBq h.out a) x (by rw[←k.out];exact hxn);replace hT:=hid hT;replace a:=hid a;have d:=Prp.X57 hs.out r x (by rw[←k.out];exact hxn);rw[hT.out,hp.out] at d;have m: ¬B<r:=fun h=>absurd (d.1 h) (Nat.lt_irrefl _);clear d;by_cases hA:A≤r
    ·have hv:sideI (A,B,C) r=0:=by unfold sideI;rw[if_neg m,if_neg (by omega)]
     have v:(sideI (A,B,C) r == 0)=true:=by rw[hv];rfl
     have f:=Prp.XbW hs.out r (by rw[hp.out,←k.out];exact hxn) (by simp only[hp.out,hT.out];exact hA);replace f:=hid f;clear hv;go_wp2_with fail;refine(Xc9 _ _ _ _ _).mono ?_;rintro e w1 ⟨rfl,c⟩;replace c:=hid c;go_wp2_with fail
     go_ret2
     exact⟨by rw[hp.out,f.out];rfl,a.out.trans (c.out.mono a.out.size)⟩
    ·have hv:(sideI (A,B,C) r == 0)=false:=by unfold sideI;simp only[if_neg m,if_pos (show r<A by omega)];rfl
     have f:=Prp.X8M hs.out r (fun _=>by simp only[hp.out,hT.out];omega);replace f:=hid f;go_wp2_with fail;refine(Xc9 _ _ _ _ _).mono ?_;rintro e w1 ⟨rfl,c⟩;replace c:=hid c;go_wp2_with fail
     go_ret2
     exact⟨by rw[hp.out,f.out];rfl,a.out.trans (c.out.mono a.out.size)⟩
   ·have q:decide ((x:Int)<(n:Int))=false:=by simp;omega
    have f:=Prp.X8M hs.out r (fun h=>absurd h (by rw[hp.out,←k.out];omega));replace f:=hid f;replace a:=hid a;go_wp2_with fail
    go_ret2
    exact⟨by rw[hp.out,f.out];rfl,a.out⟩
def FRes(T:List Prp.Row)(r:Int)(w:World)(e:Ending)(w':World):Prop:=
 ∃a b:Int,e= .returned (.tuple #[.agg #[.int .i64 a, .int .i64 b, .int .i64 ((Prp.look T r).getD 0)], .bool (Prp.look T r).isSome])∧Below w.heap.size w w'
theorem own3{w w1:World}{x y z:Value}{t:TypeId}(hb:Below (w.alloc (.cells #[x,y,z] t)).heap.size (w.alloc (.cells #[x,y,z] t)) w1):
 (w1.cell? ⟨w.heap.size,0,none⟩=some x∧w1.cell? ⟨w.heap.size,1,none⟩=some y∧w1.cell? ⟨w.heap.size,2,none⟩=some z)∧
 (w1.frozen? ⟨w.heap.size,0,none⟩=false∧w1.frozen? ⟨w.heap.size,1,none⟩=false∧w1.frozen? ⟨w.heap.size,2,none⟩=false)∧w.heap.size<w1.heap.size:=by
 have a:w.heap.size<(w.alloc (.cells #[x,y,z] t)).heap.size:=by simp
 have h:=fun o=>hb.cell (p:=⟨w.heap.size,o,none⟩) a;have f:=fun o=>hb.frozen (p:=⟨w.heap.size,o,none⟩) a;exact⟨⟨(h 0).trans (by simp),(h 1).trans (by simp),(h 2).trans (by simp)⟩,⟨(f 0).trans (by simp),(f 1).trans (by simp),(f 2).trans (by simp)⟩,Nat.lt_of_lt_of_le a hb.size⟩
theorem Xhw(T:List Prp.Row)(hs:Prp.Sorted T)(hn:T.length≤1000)(b:Nat)(r:Int)(w:World)(h:XnG w b T)(n:Nat)(d:n=T.length):
 Calls Tryz.prog 188 #[.int .i64 r, .slice (some ⟨b,0,none⟩) n n] w (FRes T r w):=by
 have i:=Prp.Xtc T r;replace hn:=hid hn;replace hs:=hid hs;cases c:Prp.look T r with
 |
  none=>
  replace c:=hid c;replace h:=hid h;replace d:=hid d;go_enter Tryz.func188,Tryz.ntmps188;go_wp2_with fail;refine(Xej T hs.out hn.out b r _ (XBq h.out (X04 _ _)) n d.out).mono ?_;rintro e w1 ⟨rfl,a⟩;rw[c.out];obtain⟨⟨c0,c1,c2⟩,⟨f0,f1,f2⟩,hz⟩:=own3 a;replace a:=hid a;go_wp2_with fail;exact bodyPost_ret (v:= .tuple #[.agg #[.int .i64 0, .int .i64 0, .int .i64 0], .bool false]) (by simp [results,Tryz.results188,go_sem,c0,c1,c2]) rfl ⟨0,0,by rw[c.out];rfl,((((X1v a.out).setCell (by simp) _).setCell (by simp) _).setCell (by simp) _)⟩
 |
  some v=>
  obtain⟨g,hv⟩:=Prp.Xjb hs.out c;obtain⟨A,B,C,hT,h0,h1,h2⟩:=XBr h _ g;rw[hT] at hv;obtain rfl:C=v:=hv;obtain⟨p,hp⟩: ∃p,Prp.pos T r=p:=⟨_,rfl⟩;rw[hp] at h0 h1 h2 g i;rw[←d] at g;have k:(p:Int)<(n:Int):=by omega
  have j:n≤1000:=by have:=hn.out;omega
  have hb:=h.1;replace hT:=hid hT;replace c:=hid c;replace h:=hid h;replace d:=hid d;go_enter Tryz.func188,Tryz.ntmps188;go_wp2_with fail;refine(Xej T hs.out hn.out b r _ (XBq h.out (X04 _ _)) n d.out).mono ?_;rintro e w1 ⟨rfl,a⟩;rw[c.out,hp];replace hp:=hid hp;obtain⟨⟨c0,c1,c2⟩,⟨f0,f1,f2⟩,hz⟩:=own3 a;have f:=hid (X1v a);have g0:w1.cell? ⟨b,p *3,none⟩=some (.int .i64 A):=by rw[f.out.cell hb];exact h0
  have g1:w1.cell? ⟨b,p *3+1,none⟩=some (.int .i64 B):=by rw[f.out.cell hb];exact h1
  have g2:w1.cell? ⟨b,p *3+2,none⟩=some (.int .i64 C):=by rw[f.out.cell hb];exact h2
  clear h0 h1 h2;replace a:=hid a;go_wp2_with fail;exact bodyPost_ret (v:= .tuple #[.agg #[.int .i64 A, .int .i64 B, .int .i64 C], .bool true]) (by simp [results,Tryz.results188,go_sem,c0,c1,c2]) rfl ⟨A,B,by rw[c.out];rfl,(((f.out.setCell (by simp) _).setCell (by simp) _).setCell (by simp) _)⟩
theorem Xek(r:Int)(w:World):
 Calls Tryz.prog 163 #[.int .i64 r] w fun e w'=>e= .returned (.int .i64 (Prp.cccI r))∧Below w.heap.size w w':=by
 unfold Prp.cccI;go_enter Tryz.func163,Tryz.ntmps163;go_upto_region 1 with(fail);refine wp_region_lit ?_
 refine X3v 44 (a':= { tmps:= #[.int .i64 r,undef, .int .i64 0,undef,undef,undef, .int .i64 r, .agg #[.int .i64 768, .int .i64 788, .int .i64 230], .agg #[.int .i64 789, .int .i64 789, .int .i64 232], .agg #[.int .i64 790, .int .i64 793, .int .i64 220], .agg #[.int .i64 794, .int .i64 794, .int .i64 232], .agg #[.int .i64 795, .int .i64 795, .int .i64 216], .agg #[.int .i64 796, .int .i64 800, .int .i64 220], .agg #[.int .i64 801, .int .i64 802, .int .i64 202], .agg #[.int .i64 803, .int .i64 806, .int .i64 220], .agg #[.int .i64 807, .int .i64 808, .int .i64 202], .agg #[.int .i64 809, .int .i64 819, .int .i64 220], .agg #[.int .i64 820, .int .i64 824, .int .i64 1], .agg #[.int .i64 825, .int .i64 828, .int .i64 220], .agg #[.int .i64 829, .int .i64 836, .int .i64 230], .agg #[.int .i64 837, .int .i64 837, .int .i64 240], .agg #[.int .i64 838, .int .i64 838, .int .i64 230], .agg #[.int .i64 839, .int .i64 841, .int .i64 220], .agg #[.int .i64 842, .int .i64 844, .int .i64 230], .agg #[.int .i64 845, .int .i64 846, .int .i64 220], .agg #[.int .i64 848, .int .i64 850, .int .i64 230], .agg #[.int .i64 851, .int .i64 854, .int .i64 220], .agg #[.int .i64 855, .int .i64 855, .int .i64 230], .agg #[.int .i64 856, .int .i64 856, .int .i64 232], .agg #[.int .i64 857, .int .i64 858, .int .i64 220], .agg #[.int .i64 859, .int .i64 859, .int .i64 230], .agg #[.int .i64 860, .int .i64 860, .int .i64 233], .agg #[.int .i64 861, .int .i64 862, .int .i64 234], .agg #[.int .i64 863, .int .i64 863, .int .i64 233], .agg #[.int .i64 864, .int .i64 865, .int .i64 234], .agg #[.int .i64 866, .int .i64 866, .int .i64 233], .agg #[.int .i64 867, .int .i64 879, .int .i64 230], .agg #[.int .i64 1611, .int .i64 1611, .int .i64 27], .agg #[.int .i64 1612, .int .i64 1612, .int .i64 28], .agg #[.int .i64 1613, .int .i64 1613, .int .i64 29], .agg #[.int .i64 1614, .int .i64 1614, .int .i64 30], .agg #[.int .i64 1615, .int .i64 1615, .int .i64 31], .agg #[.int .i64 1616, .int .i64 1616, .int .i64 32], .agg #[.int .i64 1617, .int .i64 1617, .int .i64 33], .agg #[.int .i64 1618, .int .i64 1618, .int .i64 34], .agg #[.int .i64 2364, .int .i64 2364, .int .i64 7], .agg #[.int .i64 2381, .int .i64 2381, .int .i64 9], .agg #[.int .i64 8400, .int .i64 8401, .int .i64 230], .agg #[.int .i64 12441, .int .i64 12442, .int .i64 8], .slice (some ⟨w.heap.size,0,none⟩) 42 42,undef,undef,undef,undef,undef],defers:= [] }) (w':=w.alloc (.cells (flat Prp.classes).toArray 213)) (by kernel_rfl) ?_
 simp only[List.drop_succ_cons,List.drop_zero];go_wp2_with fail;refine(Xhw Prp.classes Prp.XvN (by decide) _ r _ (XDD w _ _ Prp.classes rfl) 42 rfl).mono ?_;rintro e w1 ⟨a,b,rfl,d⟩;have c:=hid (X1v d);clear d;go_wp2_with fail;go_ret;exact⟨rfl,c.out.trans ((X04 w1 _).mono c.out.size)⟩
theorem Xca(r:Int)(w:World):
 Calls Tryz.prog 129 #[.int .i64 r] w fun e w'=>e= .returned (.bool (Prp.mrkB r))∧Below w.heap.size w w':=by
 unfold Prp.mrkB;go_enter Tryz.func129,Tryz.ntmps129;go_wp2_with fail;refine(Xek r _).mono ?_;rintro e w1 ⟨rfl,a⟩;replace a:=hid a;go_wp2_with fail;go_ret;exact⟨rfl,a.out⟩
theorem Xaa(T:List Prp.Row)(hn:T.length≤1000)(b:Nat)(r:Int)(w:World)(h:XnG w b T)(n:Nat)(d:n=T.length):
 Calls Tryz.prog 166 #[.slice (some ⟨b,0,none⟩) n n, .int .i64 r] w fun e w'=>e= .returned (.tuple #[.int .i64 ((Prp.look T r).getD 0), .bool (Prp.look T r).isSome])∧w=w':=by
 have o:n≤1000:=by omega
 replace d:=hid d;replace h:=hid h;clear hn;obtain⟨R,hR⟩: ∃R,Prp.look T r=R:=⟨_,rfl⟩;rw[hR];replace hR:=hid hR;go_enter Tryz.func166,Tryz.ntmps166;go_wp2_with fail;go_loopg [6] n (fun g i wr=>w=wr∧∃k:Nat,k≤n∧g=n - k∧i= .int .i64 k∧Hid (Prp.look T r=Prp.look (T.drop k) r))
 case atStart=>exact⟨rfl,0,Nat.zero_le _,rfl,rfl,hid rfl⟩
 case round=>
  obtain⟨rfl,k,hk,rfl,rfl,hl⟩:=hrel;by_cases hlt:k<n
  ·have j:(k:Int)<(n:Int):=by omega
   have f:k<T.length:=by rw[←d.out];exact hlt
   obtain⟨A,B,C,hT,h0,h1,h2⟩:=XBr h.out k f;have hd:T.drop k=(A,B,C)::T.drop (k+1):=by rw[List.drop_eq_getElem_cons f,hT]
   have a:Prp.look T r=if A≤r∧r≤B then some C else Prp.look (T.drop (k+1)) r:=by rw[hl.out,hd];rfl
   clear hl hd;replace hT:=hid hT;by_cases hA:A≤r
   ·by_cases hB:r≤B
    ·rw[if_pos ⟨hA,hB⟩] at a;rw[hR.out] at a;replace a:=hid a;go_wp2_with fail
     go_ret2
     exact⟨by rw[a.out];rfl,rfl⟩
    ·rw[if_neg (fun h=>hB h.2)] at a;have m:decide (r≤B)=false:=by simp;omega
     replace a:=hid a;go_wp2_with fail;go_roundg (n - (k+1))
     case measure=>omega
     case rel=>exact⟨rfl,k+1,by omega,rfl,by go_num,a⟩
   ·rw[if_neg (fun h=>hA h.1)] at a;have l:decide (A≤r)=false:=by simp;omega
    replace a:=hid a;go_wp2_with fail;go_roundg (n - (k+1))
    case measure=>omega
    case rel=>exact⟨rfl,k+1,by omega,rfl,by go_num,a⟩
  ·have j:decide ((k:Int)<(n:Int))=false:=by simp;omega
   have c:=hl.out;rw[hR.out,List.drop_eq_nil_of_le (by rw[←d.out];omega)] at c;replace c:=hid c;clear hl;go_wp2_with fail
   go_ret2
   exact⟨by rw[c.out];rfl,rfl⟩
theorem Xk7(w:World):
 Calls Tryz.prog 167 #[] w fun e w'=>e= .returned (.slice (some ⟨w.heap.size,0,none⟩) 42 42)∧w'=w.alloc (.cells (flat Prp.classes).toArray 218):=by
 go_enter Tryz.func167,Tryz.ntmps167;go_upto_region 1 with(fail);refine wp_region_lit ?_
 refine X3v 43 (a':= { tmps:= #[.slice none 0 0, .agg #[.int .i64 768, .int .i64 788, .int .i64 230], .agg #[.int .i64 789, .int .i64 789, .int .i64 232], .agg #[.int .i64 790, .int .i64 793, .int .i64 220], .agg #[.int .i64 794, .int .i64 794, .int .i64 232], .agg #[.int .i64 795, .int .i64 795, .int .i64 216], .agg #[.int .i64 796, .int .i64 800, .int .i64 220], .agg #[.int .i64 801, .int .i64 802, .int .i64 202], .agg #[.int .i64 803, .int .i64 806, .int .i64 220], .agg #[.int .i64 807, .int .i64 808, .int .i64 202], .agg #[.int .i64 809, .int .i64 819, .int .i64 220], .agg #[.int .i64 820, .int .i64 824, .int .i64 1], .agg #[.int .i64 825, .int .i64 828, .int .i64 220], .agg #[.int .i64 829, .int .i64 836, .int .i64 230], .agg #[.int .i64 837, .int .i64 837, .int .i64 240], .agg #[.int .i64 838, .int .i64 838, .int .i64 230], .agg #[.int .i64 839, .int .i64 841, .int .i64 220], .agg #[.int .i64 842, .int .i64 844, .int .i64 230], .agg #[.int .i64 845, .int .i64 846, .int .i64 220], .agg #[.int .i64 848, .int .i64 850, .int .i64 230], .agg #[.int .i64 851, .int .i64 854, .int .i64 220], .agg #[.int .i64 855, .int .i64 855, .int .i64 230], .agg #[.int .i64 856, .int .i64 856, .int .i64 232], .agg #[.int .i64 857, .int .i64 858, .int .i64 220], .agg #[.int .i64 859, .int .i64 859, .int .i64 230], .agg #[.int .i64 860, .int .i64 860, .int .i64 233], .agg #[.int .i64 861, .int .i64 862, .int .i64 234], .agg #[.int .i64 863, .int .i64 863, .int .i64 233], .agg #[.int .i64 864, .int .i64 865, .int .i64 234], .agg #[.int .i64 866, .int .i64 866, .int .i64 233], .agg #[.int .i64 867, .int .i64 879, .int .i64 230], .agg #[.int .i64 1611, .int .i64 1611, .int .i64 27], .agg #[.int .i64 1612, .int .i64 1612, .int .i64 28], .agg #[.int .i64 1613, .int .i64 1613, .int .i64 29], .agg #[.int .i64 1614, .int .i64 1614, .int .i64 30], .agg #[.int .i64 1615, .int .i64 1615, .int .i64 31], .agg #[.int .i64 1616, .int .i64 1616, .int .i64 32], .agg #[.int .i64 1617, .int .i64 1617, .int .i64 33], .agg #[.int .i64 1618, .int .i64 1618, .int .i64 34], .agg #[.int .i64 2364, .int .i64 2364, .int .i64 7], .agg #[.int .i64 2381, .int .i64 2381, .int .i64 9], .agg #[.int .i64 8400, .int .i64 8401, .int .i64 230], .agg #[.int .i64 12441, .int .i64 12442, .int .i64 8], .slice (some ⟨w.heap.size,0,none⟩) 42 42],defers:= [] }) (w':=w.alloc (.cells (flat Prp.classes).toArray 218)) (by kernel_rfl) ?_
 simp only[List.drop_succ_cons,List.drop_zero];go_wp2_with fail;go_ret;exact⟨rfl,rfl⟩
theorem XnF(r:Int)(w:World):
 Calls Tryz.prog 137 #[.int .i64 r] w fun e w'=>e= .returned (.int .i64 (Prp.cccI r))∧Below w.heap.size w w':=by
 unfold Prp.cccI;go_enter Tryz.func137,Tryz.ntmps137;go_wp2_with fail;refine(Xk7 _).mono ?_;rintro e w1 ⟨rfl,hw⟩;replace hw:=hid hw;go_wp2_with fail;refine(Xaa Prp.classes (by decide) w.heap.size r w1 (by rw[hw.out];exact XDD w _ _ Prp.classes rfl) 42 rfl).mono ?_;rintro e w2 ⟨rfl,rfl⟩;go_wp2_with fail;go_ret;exact⟨rfl,by rw[hw.out];exact X04 _ _⟩
theorem XuB(r:Int)(w:World):
 Calls Tryz.prog 105 #[.int .i64 r] w fun e w'=>e= .returned (.bool (Prp.mrkB r))∧Below w.heap.size w w':=by
 unfold Prp.mrkB;go_enter Tryz.func105,Tryz.ntmps105;go_wp2_with fail;refine(XnF r _).mono ?_;rintro e w1 ⟨rfl,a⟩;replace a:=hid a;go_wp2_with fail;go_ret;exact⟨rfl,a.out⟩
theorem Xk3(r:Int)(w:World):
 Calls Tryz.prog 173 #[.int .i64 r] w fun e w'=>e= .returned (.bool (Prp.drpB r))∧Below w.heap.size w w':=by
 unfold Prp.drpB;go_enter Tryz.func173,Tryz.ntmps173;go_upto_region 1 with(fail);refine wp_region_lit ?_
 refine X3v 17 (a':= { tmps:= #[.int .i64 r,undef, .bool false,undef,undef,undef, .int .i64 r, .agg #[.int .i64 173, .int .i64 173, .int .i64 0], .agg #[.int .i64 847, .int .i64 847, .int .i64 0], .agg #[.int .i64 1564, .int .i64 1564, .int .i64 0], .agg #[.int .i64 4447, .int .i64 4448, .int .i64 0], .agg #[.int .i64 6068, .int .i64 6069, .int .i64 0], .agg #[.int .i64 6155, .int .i64 6159, .int .i64 0], .agg #[.int .i64 8203, .int .i64 8207, .int .i64 0], .agg #[.int .i64 8234, .int .i64 8238, .int .i64 0], .agg #[.int .i64 8288, .int .i64 8303, .int .i64 0], .agg #[.int .i64 12644, .int .i64 12644, .int .i64 0], .agg #[.int .i64 65024, .int .i64 65039, .int .i64 0], .agg #[.int .i64 65279, .int .i64 65279, .int .i64 0], .agg #[.int .i64 65440, .int .i64 65440, .int .i64 0], .agg #[.int .i64 65520, .int .i64 65528, .int .i64 0], .agg #[.int .i64 917504, .int .i64 921599, .int .i64 0], .slice (some ⟨w.heap.size,0,none⟩) 15 15,undef,undef,undef,undef],defers:= [] }) (w':=w.alloc (.cells (flat Prp.dropped).toArray 213)) (by kernel_rfl) ?_
 simp only[List.drop_succ_cons,List.drop_zero];go_wp2_with fail;refine(Xhw Prp.dropped Prp.XvO (by decide) _ r _ (XDD w _ _ Prp.dropped rfl) 15 rfl).mono ?_;rintro e w1 ⟨a,b,rfl,d⟩;have c:=hid (X1v d);clear d;go_wp2_with fail;go_ret;exact⟨rfl,c.out.trans ((X04 w1 _).mono c.out.size)⟩
end Go.Proofs.YtkofnpkopbnocaaGreatDoor
