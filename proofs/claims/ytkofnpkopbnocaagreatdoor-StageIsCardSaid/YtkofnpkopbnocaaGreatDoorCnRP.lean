import Derived.Test.YtkofnpkopbnocaaGreatDoorMthP
import Derived.Test.YtkofnpkopbnocaaGreatDoorPrP
import Derived.Test.YtkofnpkopbnocaaGreatDoorBasP
import Derived.IntWalk
import Derived.Deep.LoopGhost
import Derived.Deep.DeepCutAuto
import Derived.Test.YtkofnpkopbnocaaGreatDoorCnP
import Derived.Test.YtkofnpkopbnocaaGreatDoorPaRP
import Derived.Laws.OwnMore
set_option linter.unusedSimpArgs false
set_option linter.unusedVariables false
set_option maxHeartbeats 3200000
namespace Go.Proofs.YtkofnpkopbnocaaGreatDoor
open Go.RowKit Go.Lib
open Prp (mrkB cccI)
namespace Can
theorem XcL{r:Int}(A B:List Int)(h: ∀x∈A,mrkB x=true∧cccI r<cccI x):insR r (A++B)=A++insR r B:=by
 induction A with
 | nil=>rfl
 |
  cons x t ih=>
  rw[List.cons_append,insR,if_pos (h x (List.mem_cons_self ..)),ih fun y hy=>h y (List.mem_cons_of_mem _ hy)];rfl
theorem Xfa(l:List Int)(r:Int)(k:Nat)(hk:k≤l.length)(h1: ∀j (hj:j<l.length),k≤j→mrkB l[j]=true∧cccI r<cccI l[j])
 (h2:k=0∨∃h:k - 1<l.length,¬(mrkB l[k - 1]=true∧cccI r<cccI l[k - 1])):(insR r l.reverse).reverse=l.take k++r::l.drop k:=by
 have e:l.reverse=(l.drop k).reverse++(l.take k).reverse:=by rw[←List.reverse_append,List.take_append_drop]
 rw[e,XcL]
 ·have hb:insR r (l.take k).reverse=r::(l.take k).reverse:=by
   rcases h2 with rfl | ⟨h,hn⟩
   ·simp [insR]
   ·rcases Nat.eq_zero_or_pos k with rfl | a
    ·simp [insR]
    have ht:l.take k=l.take (k - 1)++ [l[k - 1]]:=by
     conv=>lhs;rw[show k=k - 1+1 by omega]
     rw[List.take_succ_eq_append_getElem h]
    rw[ht,List.reverse_append,List.reverse_singleton,List.singleton_append,insR,if_neg hn]
  rw[hb];simp
 ·intro x hx;rw[List.mem_reverse] at hx;obtain⟨j,hj,rfl⟩:=List.mem_iff_getElem.1 hx;rw[List.length_drop] at hj;rw[List.getElem_drop];exact h1 (k+j) (by omega) (by omega)
def insF(l:List Int)(r:Int):List Int:=(insR r l.reverse).reverse
end Can
theorem X8E(v:Value)(l:List Int)(r:Int)(w:World)(hl:l.length≤1000000)(hv:RI w v l):Calls Tryz.prog 155 #[v, .int .i64 r] w (Makes (Can.insF l r) w):=by
 obtain⟨i0,hi,s,t,u⟩:=info_parts X2p;obtain⟨p,cap,rfl⟩:=X0b hv;obtain⟨_,a3,W⟩:=Xfw hv;have P:=XnF r;obtain⟨c,hc⟩: ∃c,cccI r=c:=⟨_,rfl⟩;rw[hc] at P;replace hc:=hid hc;replace P:=hid P;replace hv:=hid hv;go_enter Tryz.func155,Tryz.ntmps155;go_wp2_with fail;refine(P.out _).mono ?_;rintro e w1 ⟨rfl,T⟩;replace T:=hid T;go_wp2_with fail;go_loopg [6] l.length (fun g vk wr=>∃k:Nat,k≤l.length∧vk= .int .i64 k∧k=g∧Hid (∀j (hj:j<l.length),k≤j→mrkB l[j]=true∧cccI r<cccI l[j])∧Below w.heap.size w wr)
 case atStart=>exact⟨l.length,Nat.le_refl _,rfl,rfl,hid fun j hj h=>absurd h (by omega),T.out⟩
 case round=>
  obtain⟨k,hk,rfl,rfl,U,n⟩:=hrel;by_cases hk0:k=0
  ·subst hk0;have G:Can.insF l r=l.take 0++r::l.drop 0:=Can.Xfa l r 0 hk U.out (.inl rfl);replace G:=hid G;replace n:=hid n;cases p with
   |
    none=>
    obtain rfl:cap=0:=W rfl;obtain rfl:l= []:=List.eq_nil_of_length_eq_zero (by omega);have f:=hid (X0H w.heap.size wr [] #[] wr.heap.size 0 rfl n.out.size rfl rfl (by unfold maxLen;omega));have d:=hid (n.out.alloc n.out.size (.cells #[] 3));have q:=hid (X0Y (Xt2 (X03 (X03 hv.out n.out) (X04 wr (.cells #[] 3))) 0 hk))
    go_upto_region 6 with(at_builtin;refine X0c rfl _ _ 24 rfl w.heap.size 3 i0 (.int .i64 0) 8 Tryz.underlying24 hi s t u rfl _ _ _ rfl f.out _ _ rfl q.out (X0u _) (by simp only[List.length_map,List.length_append,List.length_take,List.length_drop,List.length_cons,List.length_nil,List.length_singleton];unfold maxLen;omega) (by simp only[List.length_map,List.length_append,List.length_take,List.length_drop,List.length_cons,List.length_nil,List.length_singleton];omega) d.out.size ?_;intro v5 w5 C z;have o5:=hid (X0i (l:=([]:List Int).take 0) C (by(try simp);try omega) (by(try simp);try omega));have b5:=hid (X0k d.out z d.out.size f.out (Nat.le_refl _));clear C z)
    have F:=hid (X0B o5.out (.cells #[.int .i64 r] 3));have o:=hid (b5.out.alloc b5.out.size (.cells #[.int .i64 r] 3));have s5:=hid (X0Y (X0a (X0H w.heap.size w5 [r] #[.int .i64 r] w5.heap.size 1 rfl b5.out.size rfl rfl (by unfold maxLen;omega))))
    go_upto_region 7 with(at_builtin;refine X0c rfl _ _ 24 rfl w.heap.size 3 i0 (.int .i64 0) 8 Tryz.underlying24 hi s t u rfl _ _ _ rfl F.out _ _ rfl s5.out (X0u _) (by simp only[List.length_map,List.length_append,List.length_take,List.length_drop,List.length_cons,List.length_nil,List.length_singleton];unfold maxLen;omega) (by simp only[List.length_map,List.length_append,List.length_take,List.length_drop,List.length_cons,List.length_nil,List.length_singleton];omega) o.out.size ?_;intro v6 w6 D A;have o6:=hid (X0i (l:=([]:List Int).take 0++ [r]) D (by(try simp);try omega) (by(try simp);try omega));have b6:=hid (X0k o.out A o.out.size F.out (Nat.le_refl _));clear D A)
    have s6:=hid (X0Y (X9J w6))
    go_wp2_with (at_builtin;refine X0c rfl _ _ 24 rfl w.heap.size 3 i0 (.int .i64 0) 8 Tryz.underlying24 hi s t u rfl _ _ _ rfl o6.out _ _ rfl s6.out (X0u _) (by simp only[List.length_map,List.length_append,List.length_take,List.length_drop,List.length_cons,List.length_nil,List.length_singleton];unfold maxLen;omega) (by simp only[List.length_map,List.length_append,List.length_take,List.length_drop,List.length_cons,List.length_nil,List.length_singleton];omega) b6.out.size ?_;intro v7 w7 E B;have o7:=hid (X0i (l:=(([]:List Int).take 0++ [r])++([]:List Int).drop 0) E (by(try simp);try omega) (by(try simp);try omega));have b7:=hid (X0k b6.out B b6.out.size o6.out (Nat.le_refl _));clear E B)
    go_ret;exact⟨_,rfl,Xdq o7.out (by rw[G.out];simp),b7.out⟩
   |
    some a=>
    have f:=hid (X0H w.heap.size wr [] #[] wr.heap.size 0 rfl n.out.size rfl rfl (by unfold maxLen;omega));have d:=hid (n.out.alloc n.out.size (.cells #[] 3));have q:=hid (X0Y (Xt2 (X03 (X03 hv.out n.out) (X04 wr (.cells #[] 3))) 0 hk))
    go_upto_region 6 with(at_builtin;refine X0c rfl _ _ 24 rfl w.heap.size 3 i0 (.int .i64 0) 8 Tryz.underlying24 hi s t u rfl _ _ _ rfl f.out _ _ rfl q.out (X0u _) (by simp only[List.length_map,List.length_append,List.length_take,List.length_drop,List.length_cons,List.length_nil,List.length_singleton];unfold maxLen;omega) (by simp only[List.length_map,List.length_append,List.length_take,List.length_drop,List.length_cons,List.length_nil,List.length_singleton];omega) d.out.size ?_;intro v5 w5 C z;have o5:=hid (X0i (l:=(l:List Int).take 0) C (by(try simp);try omega) (by(try simp);try omega));have b5:=hid (X0k d.out z d.out.size f.out (Nat.le_refl _));clear C z)
    have F:=hid (X0B o5.out (.cells #[.int .i64 r] 3));have o:=hid (b5.out.alloc b5.out.size (.cells #[.int .i64 r] 3));have s5:=hid (X0Y (X0a (X0H w.heap.size w5 [r] #[.int .i64 r] w5.heap.size 1 rfl b5.out.size rfl rfl (by unfold maxLen;omega))))
    go_upto_region 7 with(at_builtin;refine X0c rfl _ _ 24 rfl w.heap.size 3 i0 (.int .i64 0) 8 Tryz.underlying24 hi s t u rfl _ _ _ rfl F.out _ _ rfl s5.out (X0u _) (by simp only[List.length_map,List.length_append,List.length_take,List.length_drop,List.length_cons,List.length_nil,List.length_singleton];unfold maxLen;omega) (by simp only[List.length_map,List.length_append,List.length_take,List.length_drop,List.length_cons,List.length_nil,List.length_singleton];omega) o.out.size ?_;intro v6 w6 D A;have o6:=hid (X0i (l:=(l:List Int).take 0++ [r]) D (by(try simp);try omega) (by(try simp);try omega));have b6:=hid (X0k o.out A o.out.size F.out (Nat.le_refl _));clear D A)
    have s6:=hid (X0Y (X03 hv.out b6.out))
    go_wp2_with (at_builtin;refine X0c rfl _ _ 24 rfl w.heap.size 3 i0 (.int .i64 0) 8 Tryz.underlying24 hi s t u rfl _ _ _ rfl o6.out _ _ rfl s6.out (X0u _) (by simp only[List.length_map,List.length_append,List.length_take,List.length_drop,List.length_cons,List.length_nil,List.length_singleton];unfold maxLen;omega) (by simp only[List.length_map,List.length_append,List.length_take,List.length_drop,List.length_cons,List.length_nil,List.length_singleton];omega) b6.out.size ?_;intro v7 w7 E B;have o7:=hid (X0i (l:=((l:List Int).take 0++ [r])++(l:List Int).drop 0) E (by(try simp);try omega) (by(try simp);try omega));have b7:=hid (X0k b6.out B b6.out.size o6.out (Nat.le_refl _));clear E B)
    go_ret;exact⟨_,rfl,Xdq o7.out (by rw[G.out];simp),b7.out⟩
  ·have a8:0<(k:Int):=by omega
   have a9:0<k:=by omega
   obtain⟨b,off,rfl,hb,N⟩:=ri_at (X03 hv.out n) (by omega);obtain⟨m,hm⟩: ∃m,k=m+1:=⟨k - 1,by omega⟩;have a2:m<l.length:=by omega
   have R:=N m a2;obtain⟨x,hx⟩: ∃x,l[m]'a2=x:=⟨_,rfl⟩;rw[hx] at R;have a7:(k:Int) - 1=(m:Int):=by omega
   have K:=XuB x;have M:=XnF x;obtain⟨y,hy⟩: ∃y,cccI x=y:=⟨_,rfl⟩;rw[hy] at M;have L: ¬(mrkB x=true∧c<y)→Can.insF l r=l.take k++r::l.drop k:=fun hn=>Can.Xfa l r k hk U.out (.inr ⟨by omega,by
    subst hm;simp only[Nat.add_sub_cancel];rw[hx,hc.out,hy];exact hn⟩)
   have H:mrkB x=true∧c<y→∀j (hj:j<l.length),m≤j→mrkB l[j]=true∧cccI r<cccI l[j]:=by
    intro a0 j hj a1;rcases Nat.eq_or_lt_of_le a1 with rfl | h
    ·rw[hx];exact⟨a0.1,by rw[hc.out,hy];exact a0.2⟩
    ·exact U.out j hj (by omega)
   have a5:m+1≤k:=by omega
   have a6:k≤m+1:=by omega
   have aa:(k:Int)≤(cap:Int):=by omega
   have ab:(k:Int)≤(l.length:Int):=by omega
   replace hm:=hid hm;replace M:=hid M;replace hx:=hid hx;replace hy:=hid hy;clear N;replace n:=hid n;cases O:mrkB x with
   |
    true=>
    rw[O] at K L H;replace K:=hid K;by_cases hcy:c<y
    ·replace H:=hid (H ⟨rfl,hcy⟩);clear L O;go_wp2_with fail;refine(K.out _).mono ?_;rintro e w2 ⟨rfl,I⟩;have S:w2.cell? ⟨b,off+m,none⟩=some (.int .i64 x):=by rw[I.cell hb];exact R
     replace I:=hid (X05 n.out I);go_wp2_with fail;refine(M.out _).mono ?_;rintro e w3 ⟨rfl,i⟩;replace i:=hid (X05 I.out i);go_wp2_with fail;go_roundg m
     case measure=>omega
     case rel=>exact⟨m,by omega,rfl,rfl,H,i.out⟩
    ·have G:=hid (L fun h=>hcy h.2);have a4:decide (c<y)=false:=decide_eq_false hcy;clear L H O hcy;by_cases hkn:cap=k
     ·obtain rfl:k=cap:=hkn.symm;go_upto_region 5 with(first | (go_at_call 105;refine(K.out _).mono ?_;rintro e w2 ⟨rfl,I⟩;have S:w2.cell? ⟨b,off+m,none⟩=some (.int .i64 x):=(I.cell hb).trans R;replace I:=hid (X05 n.out I)) | (go_at_call 137;refine(M.out _).mono ?_;rintro e w3 ⟨rfl,i⟩;replace i:=hid (X05 I.out i)));have f:=hid (X0H w.heap.size w3 [] #[] w3.heap.size 0 rfl i.out.size rfl rfl (by unfold maxLen;omega));have d:=hid (i.out.alloc i.out.size (.cells #[] 3));have q:=hid (X0Y (Xt2 (X03 (X03 hv.out i.out) (X04 w3 (.cells #[] 3))) k hk))
      go_upto_region 6 with(at_builtin;refine X0c rfl _ _ 24 rfl w.heap.size 3 i0 (.int .i64 0) 8 Tryz.underlying24 hi s t u rfl _ _ _ rfl f.out _ _ rfl q.out (X0u _) (by simp only[List.length_map,List.length_append,List.length_take,List.length_drop,List.length_cons,List.length_nil,List.length_singleton];unfold maxLen;omega) (by simp only[List.length_map,List.length_append,List.length_take,List.length_drop,List.length_cons,List.length_nil,List.length_singleton];omega) d.out.size ?_;intro v5 w5 C z;have o5:=hid (X0i (l:=(l:List Int).take k) C (by(try simp);try omega) (by(try simp);try omega));have b5:=hid (X0k d.out z d.out.size f.out (Nat.le_refl _));clear C z)
      have F:=hid (X0B o5.out (.cells #[.int .i64 r] 3));have o:=hid (b5.out.alloc b5.out.size (.cells #[.int .i64 r] 3));have s5:=hid (X0Y (X0a (X0H w.heap.size w5 [r] #[.int .i64 r] w5.heap.size 1 rfl b5.out.size rfl rfl (by unfold maxLen;omega))))
      go_upto_region 7 with(at_builtin;refine X0c rfl _ _ 24 rfl w.heap.size 3 i0 (.int .i64 0) 8 Tryz.underlying24 hi s t u rfl _ _ _ rfl F.out _ _ rfl s5.out (X0u _) (by simp only[List.length_map,List.length_append,List.length_take,List.length_drop,List.length_cons,List.length_nil,List.length_singleton];unfold maxLen;omega) (by simp only[List.length_map,List.length_append,List.length_take,List.length_drop,List.length_cons,List.length_nil,List.length_singleton];omega) o.out.size ?_;intro v6 w6 D A;have o6:=hid (X0i (l:=(l:List Int).take k++ [r]) D (by(try simp);try omega) (by(try simp);try omega));have b6:=hid (X0k o.out A o.out.size F.out (Nat.le_refl _));clear D A)
      have s6:=hid (X0Y (X6z (Xt3 w6 (some ⟨b,off,none⟩) 0 (fun h=>by cases h)) (List.drop_of_length_le (by omega)).symm))
      go_wp2_with (at_builtin;refine X0c rfl _ _ 24 rfl w.heap.size 3 i0 (.int .i64 0) 8 Tryz.underlying24 hi s t u rfl _ _ _ rfl o6.out _ _ rfl s6.out (X0u _) (by simp only[List.length_map,List.length_append,List.length_take,List.length_drop,List.length_cons,List.length_nil,List.length_singleton];unfold maxLen;omega) (by simp only[List.length_map,List.length_append,List.length_take,List.length_drop,List.length_cons,List.length_nil,List.length_singleton];omega) b6.out.size ?_;intro v7 w7 E B;have o7:=hid (X0i (l:=((l:List Int).take k++ [r])++(l:List Int).drop k) E (by(try simp);try omega) (by(try simp);try omega));have b7:=hid (X0k b6.out B b6.out.size o6.out (Nat.le_refl _));clear E B)
      go_ret;exact⟨_,rfl,Xdq o7.out (by rw[G.out];simp),b7.out⟩
     ·go_upto_region 5 with(first | (go_at_call 105;refine(K.out _).mono ?_;rintro e w2 ⟨rfl,I⟩;have S:w2.cell? ⟨b,off+m,none⟩=some (.int .i64 x):=(I.cell hb).trans R;replace I:=hid (X05 n.out I)) | (go_at_call 137;refine(M.out _).mono ?_;rintro e w3 ⟨rfl,i⟩;replace i:=hid (X05 I.out i)));have f:=hid (X0H w.heap.size w3 [] #[] w3.heap.size 0 rfl i.out.size rfl rfl (by unfold maxLen;omega));have d:=hid (i.out.alloc i.out.size (.cells #[] 3));have q:=hid (X0Y (Xt2 (X03 (X03 hv.out i.out) (X04 w3 (.cells #[] 3))) k hk))
      go_upto_region 6 with(at_builtin;refine X0c rfl _ _ 24 rfl w.heap.size 3 i0 (.int .i64 0) 8 Tryz.underlying24 hi s t u rfl _ _ _ rfl f.out _ _ rfl q.out (X0u _) (by simp only[List.length_map,List.length_append,List.length_take,List.length_drop,List.length_cons,List.length_nil,List.length_singleton];unfold maxLen;omega) (by simp only[List.length_map,List.length_append,List.length_take,List.length_drop,List.length_cons,List.length_nil,List.length_singleton];omega) d.out.size ?_;intro v5 w5 C z;have o5:=hid (X0i (l:=(l:List Int).take k) C (by(try simp);try omega) (by(try simp);try omega));have b5:=hid (X0k d.out z d.out.size f.out (Nat.le_refl _));clear C z)
      have F:=hid (X0B o5.out (.cells #[.int .i64 r] 3));have o:=hid (b5.out.alloc b5.out.size (.cells #[.int .i64 r] 3));have s5:=hid (X0Y (X0a (X0H w.heap.size w5 [r] #[.int .i64 r] w5.heap.size 1 rfl b5.out.size rfl rfl (by unfold maxLen;omega))))
      go_upto_region 7 with(at_builtin;refine X0c rfl _ _ 24 rfl w.heap.size 3 i0 (.int .i64 0) 8 Tryz.underlying24 hi s t u rfl _ _ _ rfl F.out _ _ rfl s5.out (X0u _) (by simp only[List.length_map,List.length_append,List.length_take,List.length_drop,List.length_cons,List.length_nil,List.length_singleton];unfold maxLen;omega) (by simp only[List.length_map,List.length_append,List.length_take,List.length_drop,List.length_cons,List.length_nil,List.length_singleton];omega) o.out.size ?_;intro v6 w6 D A;have o6:=hid (X0i (l:=(l:List Int).take k++ [r]) D (by(try simp);try omega) (by(try simp);try omega));have b6:=hid (X0k o.out A o.out.size F.out (Nat.le_refl _));clear D A)
      have V: ¬k=cap:=fun h=>hkn h.symm;have s6:=hid (X0Y (XgN (X03 hv.out b6.out) k hk (by omega)))
      go_wp2_with (at_builtin;refine X0c rfl _ _ 24 rfl w.heap.size 3 i0 (.int .i64 0) 8 Tryz.underlying24 hi s t u rfl _ _ _ rfl o6.out _ _ rfl s6.out (X0u _) (by simp only[List.length_map,List.length_append,List.length_take,List.length_drop,List.length_cons,List.length_nil,List.length_singleton];unfold maxLen;omega) (by simp only[List.length_map,List.length_append,List.length_take,List.length_drop,List.length_cons,List.length_nil,List.length_singleton];omega) b6.out.size ?_;intro v7 w7 E B;have o7:=hid (X0i (l:=((l:List Int).take k++ [r])++(l:List Int).drop k) E (by(try simp);try omega) (by(try simp);try omega));have b7:=hid (X0k b6.out B b6.out.size o6.out (Nat.le_refl _));clear E B)
      go_ret;exact⟨_,rfl,Xdq o7.out (by rw[G.out];simp),b7.out⟩
   |
    false=>
    rw[O] at K L H;replace K:=hid K;have G:=hid (L fun h=>by cases h.1);clear L H O;by_cases hkn:cap=k
    ·obtain rfl:k=cap:=hkn.symm;go_upto_region 5 with(go_at_call 105;refine(K.out _).mono ?_;rintro e w3 ⟨rfl,i⟩;replace i:=hid (X05 n.out i));have f:=hid (X0H w.heap.size w3 [] #[] w3.heap.size 0 rfl i.out.size rfl rfl (by unfold maxLen;omega));have d:=hid (i.out.alloc i.out.size (.cells #[] 3));have q:=hid (X0Y (Xt2 (X03 (X03 hv.out i.out) (X04 w3 (.cells #[] 3))) k hk))
     go_upto_region 6 with(at_builtin;refine X0c rfl _ _ 24 rfl w.heap.size 3 i0 (.int .i64 0) 8 Tryz.underlying24 hi s t u rfl _ _ _ rfl f.out _ _ rfl q.out (X0u _) (by simp only[List.length_map,List.length_append,List.length_take,List.length_drop,List.length_cons,List.length_nil,List.length_singleton];unfold maxLen;omega) (by simp only[List.length_map,List.length_append,List.length_take,List.length_drop,List.length_cons,List.length_nil,List.length_singleton];omega) d.out.size ?_;intro v5 w5 C z;have o5:=hid (X0i (l:=(l:List Int).take k) C (by(try simp);try omega) (by(try simp);try omega));have b5:=hid (X0k d.out z d.out.size f.out (Nat.le_refl _));clear C z)
     have F:=hid (X0B o5.out (.cells #[.int .i64 r] 3));have o:=hid (b5.out.alloc b5.out.size (.cells #[.int .i64 r] 3));have s5:=hid (X0Y (X0a (X0H w.heap.size w5 [r] #[.int .i64 r] w5.heap.size 1 rfl b5.out.size rfl rfl (by unfold maxLen;omega))))
     go_upto_region 7 with(at_builtin;refine X0c rfl _ _ 24 rfl w.heap.size 3 i0 (.int .i64 0) 8 Tryz.underlying24 hi s t u rfl _ _ _ rfl F.out _ _ rfl s5.out (X0u _) (by simp only[List.length_map,List.length_append,List.length_take,List.length_drop,List.length_cons,List.length_nil,List.length_singleton];unfold maxLen;omega) (by simp only[List.length_map,List.length_append,List.length_take,List.length_drop,List.length_cons,List.length_nil,List.length_singleton];omega) o.out.size ?_;intro v6 w6 D A;have o6:=hid (X0i (l:=(l:List Int).take k++ [r]) D (by(try simp);try omega) (by(try simp);try omega));have b6:=hid (X0k o.out A o.out.size F.out (Nat.le_refl _));clear D A)
     have s6:=hid (X0Y (X6z (Xt3 w6 (some ⟨b,off,none⟩) 0 (fun h=>by cases h)) (List.drop_of_length_le (by omega)).symm))
     go_wp2_with (at_builtin;refine X0c rfl _ _ 24 rfl w.heap.size 3 i0 (.int .i64 0) 8 Tryz.underlying24 hi s t u rfl _ _ _ rfl o6.out _ _ rfl s6.out (X0u _) (by simp only[List.length_map,List.length_append,List.length_take,List.length_drop,List.length_cons,List.length_nil,List.length_singleton];unfold maxLen;omega) (by simp only[List.length_map,List.length_append,List.length_take,List.length_drop,List.length_cons,List.length_nil,List.length_singleton];omega) b6.out.size ?_;intro v7 w7 E B;have o7:=hid (X0i (l:=((l:List Int).take k++ [r])++(l:List Int).drop k) E (by(try simp);try omega) (by(try simp);try omega));have b7:=hid (X0k b6.out B b6.out.size o6.out (Nat.le_refl _));clear E B)
     go_ret;exact⟨_,rfl,Xdq o7.out (by rw[G.out];simp),b7.out⟩
    ·go_upto_region 5 with(go_at_call 105;refine(K.out _).mono ?_;rintro e w3 ⟨rfl,i⟩;replace i:=hid (X05 n.out i));have f:=hid (X0H w.heap.size w3 [] #[] w3.heap.size 0 rfl i.out.size rfl rfl (by unfold maxLen;omega));have d:=hid (i.out.alloc i.out.size (.cells #[] 3));have q:=hid (X0Y (Xt2 (X03 (X03 hv.out i.out) (X04 w3 (.cells #[] 3))) k hk))
     go_upto_region 6 with(at_builtin;refine X0c rfl _ _ 24 rfl w.heap.size 3 i0 (.int .i64 0) 8 Tryz.underlying24 hi s t u rfl _ _ _ rfl f.out _ _ rfl q.out (X0u _) (by simp only[List.length_map,List.length_append,List.length_take,List.length_drop,List.length_cons,List.length_nil,List.length_singleton];unfold maxLen;omega) (by simp only[List.length_map,List.length_append,List.length_take,List.length_drop,List.length_cons,List.length_nil,List.length_singleton];omega) d.out.size ?_;intro v5 w5 C z;have o5:=hid (X0i (l:=(l:List Int).take k) C (by(try simp);try omega) (by(try simp);try omega));have b5:=hid (X0k d.out z d.out.size f.out (Nat.le_refl _));clear C z)
     have F:=hid (X0B o5.out (.cells #[.int .i64 r] 3));have o:=hid (b5.out.alloc b5.out.size (.cells #[.int .i64 r] 3));have s5:=hid (X0Y (X0a (X0H w.heap.size w5 [r] #[.int .i64 r] w5.heap.size 1 rfl b5.out.size rfl rfl (by unfold maxLen;omega))))
     go_upto_region 7 with(at_builtin;refine X0c rfl _ _ 24 rfl w.heap.size 3 i0 (.int .i64 0) 8 Tryz.underlying24 hi s t u rfl _ _ _ rfl F.out _ _ rfl s5.out (X0u _) (by simp only[List.length_map,List.length_append,List.length_take,List.length_drop,List.length_cons,List.length_nil,List.length_singleton];unfold maxLen;omega) (by simp only[List.length_map,List.length_append,List.length_take,List.length_drop,List.length_cons,List.length_nil,List.length_singleton];omega) o.out.size ?_;intro v6 w6 D A;have o6:=hid (X0i (l:=(l:List Int).take k++ [r]) D (by(try simp);try omega) (by(try simp);try omega));have b6:=hid (X0k o.out A o.out.size F.out (Nat.le_refl _));clear D A)
     have V: ¬k=cap:=fun h=>hkn h.symm;have s6:=hid (X0Y (XgN (X03 hv.out b6.out) k hk (by omega)))
     go_wp2_with (at_builtin;refine X0c rfl _ _ 24 rfl w.heap.size 3 i0 (.int .i64 0) 8 Tryz.underlying24 hi s t u rfl _ _ _ rfl o6.out _ _ rfl s6.out (X0u _) (by simp only[List.length_map,List.length_append,List.length_take,List.length_drop,List.length_cons,List.length_nil,List.length_singleton];unfold maxLen;omega) (by simp only[List.length_map,List.length_append,List.length_take,List.length_drop,List.length_cons,List.length_nil,List.length_singleton];omega) b6.out.size ?_;intro v7 w7 E B;have o7:=hid (X0i (l:=((l:List Int).take k++ [r])++(l:List Int).drop k) E (by(try simp);try omega) (by(try simp);try omega));have b7:=hid (X0k b6.out B b6.out.size o6.out (Nat.le_refl _));clear E B)
     go_ret;exact⟨_,rfl,Xdq o7.out (by rw[G.out];simp),b7.out⟩
open Go.RowKit Go.Lib
namespace Can
theorem Xox(l:List Int)(x:Int):X0S (l++ [x])=if Prp.mrkB x=true then insF (X0S l) x else X0S l++ [x]:=by
 unfold X0S insF;rw[X3V,X5Y];unfold stepR
 split
 ·rw[List.reverse_reverse]
 ·rw[List.reverse_cons]
end Can
theorem XaM(v:Value)(l:List Int)(w:World)(hl:l.length≤1000000)(hv:RI w v l):Calls Tryz.prog 138 #[v] w (Makes (Can.X0S l) w):=by
 obtain⟨i0,hi,D,E,F⟩:=info_parts X2p;obtain⟨p,cap,rfl⟩:=X0b hv;replace hv:=hid hv;go_enter Tryz.func138,Tryz.ntmps138;go_wp2_with fail;go_loopg [3,4] l.length (fun g vo vi wr=>∃k:Nat,k≤l.length∧vi= .int .i64 k∧g=l.length - k∧OwnI w.heap.size vo (Can.X0S (l.take k)) wr∧Below w.heap.size w wr)
 case atStart=>exact⟨0,Nat.zero_le _,rfl,rfl,X0O _ _,Below.refl _ _⟩
 case round=>
  obtain⟨k,hk,rfl,rfl,c,d⟩:=hrel;by_cases hlt:k<l.length
  ·have t:(k:Int)<(l.length:Int):=by omega
   obtain⟨b,off,rfl,hb,i⟩:=ri_at (X03 hv.out d) (by omega);have hc:=i k hlt;obtain⟨x,hx⟩: ∃x,l[k]=x:=⟨_,rfl⟩;have q:l.take (k+1)=l.take k++ [x]:=by rw[List.take_succ_eq_append_getElem hlt,hx]
   rw[hx] at hc;have a:=Can.Xox (l.take k) x;rw[←q] at a;have j:=Can.X1p (l.take k);rw[List.length_take] at j;obtain⟨m,hm⟩: ∃m,Can.X0S (l.take k)=m:=⟨_,rfl⟩;rw[hm] at c a j;have C:m.length≤1000000:=by omega
   have h:=XuB x;cases n:Prp.mrkB x with
   |
    true=>
    rw[n] at h;rw[if_pos n] at a;replace h:=hid h;replace a:=hid a;replace c:=hid c;replace d:=hid d;clear i q hx hm j n;go_wp2_with fail;refine(h.out _).mono ?_;rintro e w2 ⟨rfl,f⟩;have B:w2.cell? ⟨b,off+k,none⟩=some (.int .i64 x):=(f.cell hb).trans hc;have A:=X0a (X0x c.out f);have s:=hid (X8E _ m x w2 C A);replace f:=hid (X05 d.out f);clear A;go_wp2_with fail;refine s.out.mono ?_;rintro e w3 ⟨v3,rfl,u,o⟩;have y:=hid (X0w u f.out.size);replace o:=hid (X05 f.out o);clear u;go_wp2_with fail;go_roundg (l.length - (k+1))
    case measure=>omega
    case rel=>exact⟨k+1,by omega,by go_num,rfl,by rw[a.out];exact y.out,o.out⟩
   |
    false=>
    rw[n] at h;rw[if_neg (by rw[n];simp)] at a;replace h:=hid h;replace a:=hid a;replace c:=hid c;replace d:=hid d;clear i q hx hm j n;go_wp2_with fail;refine(h.out _).mono ?_;rintro e w2 ⟨rfl,f⟩;have B:w2.cell? ⟨b,off+k,none⟩=some (.int .i64 x):=(f.cell hb).trans hc;have o2:=hid (X0B (X0x c.out f) (.cells #[.int .i64 x] 3));replace f:=hid (X05 d.out f);have b2:=hid (f.out.alloc f.out.size (.cells #[.int .i64 x] 3));have s2:=hid (X0Y (X0a (X0H w.heap.size w2 [x] #[.int .i64 x] w2.heap.size 1 rfl f.out.size rfl rfl (by unfold maxLen;omega))))
    go_wp2_with (at_builtin;refine X0c rfl _ _ 24 rfl w.heap.size 3 i0 (.int .i64 0) 8 Tryz.underlying24 hi D E F rfl _ _ _ rfl o2.out _ _ rfl s2.out (X0u _) (by simp only[List.length_map,List.length_append,List.length_take,List.length_drop,List.length_cons,List.length_nil,List.length_singleton];unfold maxLen;omega) (by simp only[List.length_map,List.length_append,List.length_take,List.length_drop,List.length_cons,List.length_nil,List.length_singleton];omega) b2.out.size ?_;intro v5 w5 z r;have o5:=hid (X0i (l:=m++ [x]) z (by(try simp);try omega) (by(try simp);try omega));have b5:=hid (X0k b2.out r b2.out.size o2.out (Nat.le_refl _));clear z r)
    go_roundg (l.length - (k+1))
    case measure=>omega
    case rel=>exact⟨k+1,by omega,by go_num,rfl,by rw[a.out];exact o5.out,b5.out⟩
  ·obtain rfl:k=l.length:=by omega
   have t:decide ((l.length:Int)<(l.length:Int))=false:=by simp
   rw[List.take_length] at c;replace c:=hid c;replace d:=hid d;go_wp2_with fail;go_ret;exact⟨_,rfl,c.out,d.out⟩
theorem XcM(v:Value)(l:List Int)(w:World)(hl:l.length≤100000)(hv:RI w v l):Calls Tryz.prog 107 #[v] w fun e w'=>e= .returned (.bool (Can.X21 l))∧Below w.heap.size w w':=by
 have ho:=hid (XaM v l w (by omega) hv);have hs:Can.X21 l=sameB (Can.X0S l) l:=by rw[Can.Xou];rfl
 rw[hs];have b:=Can.X1p l;obtain⟨m,hm⟩: ∃m,Can.X0S l=m:=⟨_,rfl⟩;rw[hm] at ho b ⊢;have g:m.length≤100000:=by omega
 replace hv:=hid hv;clear hs hm b;go_enter Tryz.func107,Tryz.ntmps107;go_wp2_with fail;refine ho.out.mono ?_;rintro e w1 ⟨v1,rfl,d,a⟩;have c:=hid (X36 v1 v m l w1 g (X0a d) (X03 hv.out a));replace a:=hid a;clear d;go_wp2_with fail;refine c.out.mono ?_;rintro e w2 ⟨rfl,n,rfl⟩;have f:=hid (X05 a.out (X0U w1 n));go_wp2_with fail;go_ret;exact⟨rfl,f.out⟩
namespace Can
end Can
open Go.RowKit Go.Lib
def XrU(m:List Int)(r:Int)(w:World)(e:Ending)(w':World):Prop:=
 ((
  (∃v:Int,e= .returned (.tuple #[.int .i64 v, .int .i64 (-1)]))∧Can.cstep m.reverse r=r::m.reverse)∨
  ∃ (k:Nat) (v:Int),k<m.length∧e= .returned (.tuple #[.int .i64 v, .int .i64 k])∧Can.cstep m.reverse r=(m.set k v).reverse)∧Below w.heap.size w w'
theorem Xl5(v:Value)(m:List Int)(r:Int)(w:World)(hl:m.length≤1000000)(hv:RI w v m):Calls Tryz.prog 127 #[v, .int .i64 r] w (XrU m r w):=by
 obtain⟨p,cap,rfl⟩:=X0b hv;replace hv:=hid hv;by_cases hm0:m= []
 ·subst hm0;go_enter Tryz.func127,Tryz.ntmps127;go_wp2_with fail;go_loopg [6] 0 (fun g vk wr=>vk= .int .i64 (-1)∧g=0∧wr=w)
  case atStart=>exact⟨rfl,rfl,rfl⟩
  case round=>
   obtain⟨rfl,rfl,rfl⟩:=hrel;go_wp2_with fail
   go_ret2
   exact⟨.inl ⟨⟨_,rfl⟩,Can.XcK [] r fun j hj=>by simp at hj⟩,Below.refl _ _⟩
 ·obtain⟨L,hL⟩: ∃L,m.length=L+1:=⟨m.length - 1,by have:=List.length_pos_iff.2 hm0;omega⟩;have W:(m.length:Int) - 1=(L:Int):=by omega
  have S:L<m.length:=by omega
  obtain⟨b,off,rfl,hb,t⟩:=ri_at hv.out (by omega);have a0:=t;replace t:=hid t;obtain⟨z,hz⟩: ∃z,m[L]=z:=⟨_,rfl⟩;have N:=t.out L S;rw[hz] at N;replace hL:=hid hL;replace hz:=hid hz;replace N:=hid N;clear hm0 a0;go_enter Tryz.func127,Tryz.ntmps127;go_wp2_with fail;go_loopg [6] (L+1) (fun g vk wr=>((∃k:Nat,k<m.length∧vk= .int .i64 k∧g=k+1∧Hid (∀j (hj:j<m.length),k<j→Prp.mrkB m[j]=true))∨(vk= .int .i64 (-1)∧g=0∧Hid (∀j (hj:j<m.length),Prp.mrkB m[j]=true)))∧Below w.heap.size w wr)
  case atStart=>exact⟨.inl ⟨L,S,rfl,rfl,hid fun j hj h=>absurd hj (by have:=hL.out;omega)⟩,Below.refl _ _⟩
  case round=>
   obtain⟨hh,f⟩:=hrel;rcases hh with⟨k,hk,rfl,rfl,u⟩ | ⟨rfl,rfl,u⟩
   ·have hc:wr.cell? ⟨b,off+k,none⟩=some (.int .i64 m[k]):=by rw[f.cell hb];exact t.out k hk
    have C:b<wr.heap.size:=Nat.lt_of_lt_of_le hb f.size;obtain⟨x,hx⟩: ∃x,m[k]=x:=⟨_,rfl⟩;rw[hx] at hc;have q:=XuB x;cases F:Prp.mrkB x with
    |
     true=>
     rw[F] at q;replace q:=hid q;replace f:=hid f;have O:Hid (∀j (hj:j<m.length),k≤j→Prp.mrkB m[j]=true):=hid fun j hj h=>by
      rcases Nat.eq_or_lt_of_le h with rfl | h
      ·rw[hx,F]
      ·exact u.out j hj h
     clear u hx F;go_wp2_with fail;refine(q.out _).mono ?_;rintro e w2 ⟨rfl,a⟩;replace a:=hid (X05 f.out a);go_wp2_with fail;cases k with
     |
      zero=>
      go_roundg 0
      case measure=>omega
      case rel=>exact⟨.inr ⟨rfl,rfl,hid fun j hj=>O.out j hj (Nat.zero_le _)⟩,a.out⟩
     |
      succ k=>
      go_roundg (k+1)
      case measure=>omega
      case rel=>exact⟨.inl ⟨k,by omega,by go_num,rfl,hid fun j hj h=>O.out j hj (by omega)⟩,a.out⟩
    |
     false=>
     rw[F] at q;replace q:=hid q;have G:Prp.mrkB m[k]=false:=by rw[hx,F]
     have i:=Can.Xov m L hL.out r k hk G u.out;rw[hx] at i;have d:=Xuo x r;replace f:=hid f;by_cases hkL:k=L
     ·
      have l:=i (fun h=>by
       have:Prp.mrkB m[k]=true:=by simp only[hkL];exact h.1
       rw[G] at this;cases this)
      subst hkL;have a1:(m.length:Int) - 1=(k:Int):=W;cases D:Par.joinI x r with
      |
       none=>
       rw[D] at l d;unfold optI at d;dsimp only at d l;replace l:=hid l;replace d:=hid d;clear i u hx F G D;go_wp2_with fail;refine(q.out _).mono ?_;rintro e w2 ⟨rfl,a⟩;have M:w2.cell? ⟨b,off+k,none⟩=some (.int .i64 x):=(a.cell C).trans hc;replace a:=hid (X05 f.out a);go_wp2_with fail;refine(d.out _).mono ?_;rintro e w3 ⟨rfl,rfl⟩;go_wp2_with fail
       go_ret2
       exact⟨.inl ⟨⟨_,rfl⟩,l.out⟩,a.out⟩
      |
       some y=>
       rw[D] at l d;unfold optI at d;dsimp only at d l;replace l:=hid l;replace d:=hid d;clear i u hx F G D;go_wp2_with fail;refine(q.out _).mono ?_;rintro e w2 ⟨rfl,a⟩;have M:w2.cell? ⟨b,off+k,none⟩=some (.int .i64 x):=(a.cell C).trans hc;replace a:=hid (X05 f.out a);go_wp2_with fail;refine(d.out _).mono ?_;rintro e w3 ⟨rfl,rfl⟩;go_wp2_with fail
       go_ret2
       exact⟨.inr ⟨k,y,hk,rfl,l.out⟩,a.out⟩
     ·have U:Prp.mrkB z=true:=by rw[←hz.out];exact u.out L S (by have:=hL.out;omega)
      have I:wr.cell? ⟨b,off+L,none⟩=some (.int .i64 z):=by rw[f.out.cell hb];exact N.out
      have B:=XnF z;have A:=XnF r;have s:=Can.Xl4 m L hL.out r;rw[hz.out] at i s;obtain⟨cz,R⟩: ∃c,Prp.cccI z=c:=⟨_,rfl⟩;obtain⟨cr,P⟩: ∃c,Prp.cccI r=c:=⟨_,rfl⟩;rw[R] at B i s;rw[P] at A i s;rw[U] at i s;have V: ¬(k:Int)=(L:Int):=by omega
      have a3:((k:Int) == (L:Int))=false:=beq_eq_false_iff_ne.2 V;have a4:((k:Int) != (L:Int))=true:=bne_iff_ne.2 V;replace B:=hid B;replace A:=hid A;clear u hx F G U R P;by_cases hcc:cr≤cz
      ·have K:=hid (s rfl hcc);clear s i d;go_wp2_with fail;refine(q.out _).mono ?_;rintro e w2 ⟨rfl,a⟩;have M:w2.cell? ⟨b,off+L,none⟩=some (.int .i64 z):=(a.cell C).trans I;replace a:=hid (X05 f.out a);go_wp2_with fail;refine(B.out _).mono ?_;rintro e w3 ⟨rfl,n⟩;replace n:=hid (X05 a.out n);go_wp2_with fail;refine(A.out _).mono ?_;rintro e w4 ⟨rfl,o⟩;replace o:=hid (X05 n.out o);go_wp2_with fail
       go_ret2
       exact⟨.inl ⟨⟨_,rfl⟩,K.out⟩,o.out⟩
      ·have l:=i fun h=>hcc h.2;have a2:decide (cr≤cz)=false:=decide_eq_false hcc;clear s i hcc;cases D:Par.joinI x r with
       |
        none=>
        rw[D] at l d;unfold optI at d;dsimp only at d l;replace l:=hid l;replace d:=hid d;clear D;go_wp2_with fail;refine(q.out _).mono ?_;rintro e w2 ⟨rfl,a⟩;have M:w2.cell? ⟨b,off+L,none⟩=some (.int .i64 z):=(a.cell C).trans I;have T:w2.cell? ⟨b,off+k,none⟩=some (.int .i64 x):=(a.cell C).trans hc;have E:=Nat.lt_of_lt_of_le C a.size;replace a:=hid (X05 f.out a);go_wp2_with fail;refine(B.out _).mono ?_;rintro e w3 ⟨rfl,n⟩;have hd3:w3.cell? ⟨b,off+k,none⟩=some (.int .i64 x):=(n.cell E).trans T;have H:=Nat.lt_of_lt_of_le E n.size;replace n:=hid (X05 a.out n);go_wp2_with fail
        refine(A.out _).mono ?_;rintro e w4 ⟨rfl,o⟩;have hd4:w4.cell? ⟨b,off+k,none⟩=some (.int .i64 x):=(o.cell H).trans hd3;replace o:=hid (X05 n.out o);go_wp2_with fail;refine(d.out _).mono ?_;rintro e w5 ⟨rfl,rfl⟩;go_wp2_with fail
        go_ret2
        exact⟨.inl ⟨⟨_,rfl⟩,l.out⟩,o.out⟩
       |
        some y=>
        rw[D] at l d;unfold optI at d;dsimp only at d l;replace l:=hid l;replace d:=hid d;clear D;go_wp2_with fail;refine(q.out _).mono ?_;rintro e w2 ⟨rfl,a⟩;have M:w2.cell? ⟨b,off+L,none⟩=some (.int .i64 z):=(a.cell C).trans I;have T:w2.cell? ⟨b,off+k,none⟩=some (.int .i64 x):=(a.cell C).trans hc;have E:=Nat.lt_of_lt_of_le C a.size;replace a:=hid (X05 f.out a);go_wp2_with fail;refine(B.out _).mono ?_;rintro e w3 ⟨rfl,n⟩;have hd3:w3.cell? ⟨b,off+k,none⟩=some (.int .i64 x):=(n.cell E).trans T;have H:=Nat.lt_of_lt_of_le E n.size;replace n:=hid (X05 a.out n);go_wp2_with fail
        refine(A.out _).mono ?_;rintro e w4 ⟨rfl,o⟩;have hd4:w4.cell? ⟨b,off+k,none⟩=some (.int .i64 x):=(o.cell H).trans hd3;replace o:=hid (X05 n.out o);go_wp2_with fail;refine(d.out _).mono ?_;rintro e w5 ⟨rfl,rfl⟩;go_wp2_with fail
        go_ret2
        exact⟨.inr ⟨k,y,hk,rfl,l.out⟩,o.out⟩
   ·have K:=hid (Can.XcK m r u.out);replace f:=hid f;clear u;go_wp2_with fail
    go_ret2
    exact⟨.inl ⟨⟨_,rfl⟩,K.out⟩,f.out⟩
theorem X5x(v:Value)(l:List Int)(w:World)(hl:l.length≤1000000)(hv:RI w v l):Calls Tryz.prog 97 #[v] w (Makes (Can.X0s l) w):=by
 obtain⟨i0,hi,z,A,B⟩:=info_parts X2p;obtain⟨p,cap,rfl⟩:=X0b hv;replace hv:=hid hv;go_enter Tryz.func97,Tryz.ntmps97;go_wp2_with fail;go_loopg [3,4] l.length (fun g vo vi wr=>∃k:Nat,k≤l.length∧vi= .int .i64 k∧g=l.length - k∧OwnI w.heap.size vo (Can.X0s (l.take k)) wr∧Below w.heap.size w wr)
 case atStart=>exact⟨0,Nat.zero_le _,rfl,rfl,X0O _ _,Below.refl _ _⟩
 case round=>
  obtain⟨k,hk,rfl,rfl,c,d⟩:=hrel;by_cases hlt:k<l.length
  ·have t:(k:Int)<(l.length:Int):=by omega
   obtain⟨b,off,rfl,hb,n⟩:=ri_at (X03 hv.out d) (by omega);have hc:=n k hlt;obtain⟨x,hx⟩: ∃x,l[k]=x:=⟨_,rfl⟩;have u:l.take (k+1)=l.take k++ [x]:=by rw[List.take_succ_eq_append_getElem hlt,hx]
   rw[hx] at hc;have a:=Can.Xim (l.take k) x;rw[←u] at a;have r:=Can.X1k (l.take k);rw[List.length_take] at r;obtain⟨m,hm⟩: ∃m,Can.X0s (l.take k)=m:=⟨_,rfl⟩;rw[hm] at c a r;have E:m.length≤1000000:=by omega
   have hj:=Xl5 _ m x wr E (X0a c);replace hj:=hid hj;replace a:=hid a;replace c:=hid c;replace d:=hid d;clear n u hx hm r;go_wp2_with fail;refine hj.out.mono ?_;rintro e w2 ⟨D,f⟩;have G:w2.cell? ⟨b,off+k,none⟩=some (.int .i64 x):=(f.cell hb).trans hc;have o2:=hid (X0x c.out f);replace f:=hid (X05 d.out f);rcases D with⟨⟨v0,rfl⟩,o⟩ | ⟨j,y,C,rfl,o⟩
   ·have h:=a.out;rw[o,List.reverse_cons,List.reverse_reverse] at h;replace h:=hid h;clear a o;have o3:=hid (X0B o2.out (.cells #[.int .i64 x] 3));have b3:=hid (f.out.alloc f.out.size (.cells #[.int .i64 x] 3));have s3:=hid (X0Y (X0a (X0H w.heap.size w2 [x] #[.int .i64 x] w2.heap.size 1 rfl f.out.size rfl rfl (by unfold maxLen;omega))))
    go_wp2_with (at_builtin;refine X0c rfl _ _ 24 rfl w.heap.size 3 i0 (.int .i64 0) 8 Tryz.underlying24 hi z A B rfl _ _ _ rfl o3.out _ _ rfl s3.out (X0u _) (by simp only[List.length_map,List.length_append,List.length_take,List.length_drop,List.length_cons,List.length_nil,List.length_singleton];unfold maxLen;omega) (by simp only[List.length_map,List.length_append,List.length_take,List.length_drop,List.length_cons,List.length_nil,List.length_singleton];omega) b3.out.size ?_;intro v5 w5 s q;have o5:=hid (X0i (l:=m++ [x]) s (by(try simp);try omega) (by(try simp);try omega));have b5:=hid (X0k b3.out q b3.out.size o3.out (Nat.le_refl _));clear s q)
    go_roundg (l.length - (k+1))
    case measure=>omega
    case rel=>exact⟨k+1,by omega,by go_num,rfl,by rw[h.out];exact o5.out,b5.out⟩
   ·have h:=a.out;rw[o,List.reverse_reverse] at h;replace h:=hid h;clear a o;have K:decide ((j:Int)<0)=false:=by simp
    have o3:=hid (X0H w.heap.size w2 [] #[] w2.heap.size 0 rfl f.out.size rfl rfl (by unfold maxLen;omega));have b3:=hid (f.out.alloc f.out.size (.cells #[] 3));have s3:=hid (X0Y (X0a (X0B o2.out (.cells #[] 3))))
    go_upto_region 9 with(at_builtin;refine X0c rfl _ _ 24 rfl w.heap.size 3 i0 (.int .i64 0) 8 Tryz.underlying24 hi z A B rfl _ _ _ rfl o3.out _ _ rfl s3.out (X0u _) (by simp only[List.length_map,List.length_append,List.length_take,List.length_drop,List.length_cons,List.length_nil,List.length_singleton];unfold maxLen;omega) (by simp only[List.length_map,List.length_append,List.length_take,List.length_drop,List.length_cons,List.length_nil,List.length_singleton];omega) b3.out.size ?_;intro v5 w5 s q;have o5:=hid (X0i (l:=m) s (by(try simp);try omega) (by(try simp);try omega));have b5:=hid (X0k b3.out q b3.out.size o3.out (Nat.le_refl _));clear s q)
    obtain⟨g,cp,F,hB,hg,i⟩:=X9K o5.out (by omega);subst F;have H:=i j C;have I:=World.ownsRow.frozenAt o5.out j;have o6:=hid (Xow o5.out rfl j y);have b6:=hid (b5.out.setCell (p:=⟨g,j,none⟩) hB (.int .i64 y));clear i;go_wp2_with fail;go_roundg (l.length - (k+1))
    case measure=>omega
    case rel=>exact⟨k+1,by omega,by go_num,rfl,by rw[h.out];exact o6.out,b6.out⟩
  ·obtain rfl:k=l.length:=by omega
   have t:decide ((l.length:Int)<(l.length:Int))=false:=by simp
   rw[List.take_length] at c;replace c:=hid c;replace d:=hid d;go_wp2_with fail;go_ret;exact⟨_,rfl,c.out,d.out⟩
end Go.Proofs.YtkofnpkopbnocaaGreatDoor
