import Derived.Test.YtkofnpkopbnocaaGreatDoorMatP
import Derived.Test.YtkofnpkopbnocaaGreatDoorKP
import Derived.Test.YtkofnpkopbnocaaGreatDoorBasP
import Derived.Deep.LoopGhost
import Derived.Deep.DeepCutAuto
import Derived.Test.YtkofnpkopbnocaaGreatDoorG1
import Derived.StillTailTactics
import Derived.Deep.RegionHeld3
import Derived.Deep.QuietTactic
import Derived.BigQuiet
set_option linter.unusedSimpArgs false
set_option linter.unusedVariables false
set_option maxHeartbeats 3200000
namespace Go.Proofs.YtkofnpkopbnocaaGreatDoor
namespace Dec
open Go.Lib
def headN(x:Nat):Nat × Nat:=
 if x<128 then (1,x) else if 192≤x∧x<224 then (2,x - 192) else if 224≤x∧x<240 then (3,x - 224) else if 240≤x∧x<248 then (4,x - 240) else (0,0)
def valK(s:List UInt8)(rest v0:Nat):Nat→Nat
 | 0=>v0
 | k+1=>valK s rest v0 k *64+(if k+1<s.length then nb s (k+1) % 64 else rest)
def valN(s:List UInt8)(rest:Nat):Nat:=valK s rest (headN (nb s 0)).2 ((headN (nb s 0)).1 - 1)
def X5j(s:List UInt8):Prop:=s≠ []∧(headN (nb s 0)).1=s.length∧goodB (valN s 0:Int)=true∧Lib.encodeRune (valN s 0:Int)=s
theorem head1{x:Nat}(h:x<128):headN x=(1,x):=by unfold headN;rw[if_pos h]
theorem head2{x:Nat}(h:192≤x∧x<224):headN x=(2,x - 192):=by unfold headN;rw[if_neg (by omega),if_pos h]
theorem head3{x:Nat}(h:224≤x∧x<240):headN x=(3,x - 224):=by unfold headN;rw[if_neg (by omega),if_neg (by omega),if_pos h]
theorem head4{x:Nat}(h:240≤x∧x<248):headN x=(4,x - 240):=by unfold headN;rw[if_neg (by omega),if_neg (by omega),if_neg (by omega),if_pos h]
theorem val1(a:UInt8)(h:a.toNat<128)(rest:Nat):valN [a] rest=a.toNat:=by
 unfold valN;rw[show nb [a] 0=a.toNat from rfl,head1 h];rfl
theorem enc1(n:Nat)(h:n≤127): ∃a:UInt8,Lib.encodeRune (n:Int)= [a]∧a.toNat=n:=by
 refine⟨_,?_,X2U (n:Int) (by omega) (by omega)⟩;unfold Lib.encodeRune;rw[Lib.encodeRuneZ_one (by omega) (by omega)];rfl
theorem enc2(n:Nat)(h:128≤n∧n≤2047): ∃a b:UInt8,Lib.encodeRune (n:Int)= [a,b]∧a.toNat=192+n / 64∧b.toNat=128+n % 64:=by
 refine⟨_,_,?_,(X2U (192+(n:Int) / 64) (by omega) (by omega)).trans (by omega),(X2U (128+(n:Int) % 64) (by omega) (by omega)).trans (by omega)⟩;unfold Lib.encodeRune;rw[Lib.encodeRuneZ_two (by omega) (by omega)];rfl
theorem enc3(n:Nat)(h:(2048≤n∧n<55296)∨(57343<n∧n≤65535)): ∃a b c:UInt8,Lib.encodeRune (n:Int)= [a,b,c]∧a.toNat=224+n / 4096∧b.toNat=128+n / 64 % 64∧c.toNat=128+n % 64:=by
 refine⟨_,_,_,?_,(X2U (224+(n:Int) / 4096) (by omega) (by omega)).trans (by omega),(X2U (128+(n:Int) / 64 % 64) (by omega) (by omega)).trans (by omega),(X2U (128+(n:Int) % 64) (by omega) (by omega)).trans (by omega)⟩;unfold Lib.encodeRune;rw[Lib.encodeRuneZ_three (by omega)];rfl
theorem enc4(n:Nat)(h:65536≤n∧n≤1114111): ∃a b c d:UInt8,Lib.encodeRune (n:Int)= [a,b,c,d]∧a.toNat=240+n / 262144∧b.toNat=128+n / 4096 % 64∧c.toNat=128+n / 64 % 64∧d.toNat=128+n % 64:=by
 refine⟨_,_,_,_,?_,(X2U (240+(n:Int) / 262144) (by omega) (by omega)).trans (by omega),(X2U (128+(n:Int) / 4096 % 64) (by omega) (by omega)).trans (by omega),(X2U (128+(n:Int) / 64 % 64) (by omega) (by omega)).trans (by omega),(X2U (128+(n:Int) % 64) (by omega) (by omega)).trans (by omega)⟩;unfold Lib.encodeRune;rw[Lib.encodeRuneZ_four (by omega) (by omega)];rfl
theorem X3A{a b:UInt8}(h:a.toNat=b.toNat):a=b:=UInt8.toNat_inj.1 h
theorem val2(a b:UInt8)(h:192≤a.toNat∧a.toNat<224)(rest:Nat):valN [a,b] rest=(a.toNat - 192) *64+b.toNat % 64:=by
 unfold valN;rw[show nb [a,b] 0=a.toNat from rfl,head2 h];rfl
theorem val3(a b c:UInt8)(h:224≤a.toNat∧a.toNat<240)(rest:Nat):valN [a,b,c] rest=((a.toNat - 224) *64+b.toNat % 64) *64+c.toNat % 64:=by
 unfold valN;rw[show nb [a,b,c] 0=a.toNat from rfl,head3 h];rfl
theorem val4(a b c d:UInt8)(h:240≤a.toNat∧a.toNat<248)(rest:Nat):valN [a,b,c,d] rest=(((a.toNat - 240) *64+b.toNat % 64) *64+c.toNat % 64) *64+d.toNat % 64:=by
 unfold valN;rw[show nb [a,b,c,d] 0=a.toNat from rfl,head4 h];rfl
theorem Xpo{s:List UInt8}(h:X5j s):Form (valN s 0:Int) s:=by
 have:=Xh3 _ h.2.2.1;rw[h.2.2.2] at this;exact this
def candB(s:List UInt8)(lo hi n:Nat)(x:Int):Bool:=
 decide ((lo:Int)≤x) && decide (x≤(hi:Int)) && goodB x && (decide ((Lib.encodeRune x).length=n) && decide ((Lib.encodeRune x).take s.length=s))
def cands(lo hi:Nat):List Int:= [(lo:Int),(hi:Int),128,2048,65536,55295,57344,1114111]
def begR(s:List UInt8):Bool:=
 decide (s.length≠0) && decide (s.length≤3) && decide (s.length<(headN (nb s 0)).1) && (cands (valN s 0) (valN s 63)).any (candB s (valN s 0) (valN s 63) (headN (nb s 0)).1)
theorem X7w(s:List UInt8)(h1:s.length≠0)(h2:s.length≤3)(h3:s.length<(headN (nb s 0)).1)(x:Nat)(hx:(x:Int)∈cands (valN s 0) (valN s 63))(hlo:valN s 0≤x)(hhi:x≤valN s 63)
 (hg:goodB (x:Int)=true) (hl:(Lib.encodeRune (x:Int)).length=(headN (nb s 0)).1) (ht:(Lib.encodeRune (x:Int)).take s.length=s):begR s=true:=by
 unfold begR;simp only[h1,h2,h3,ne_eq,not_false_eq_true,decide_true,Bool.true_and];refine List.any_eq_true.2 ⟨(x:Int),hx,?_⟩;unfold candB;have e1:decide ((valN s 0:Int)≤(x:Int))=true:=decide_eq_true (by omega);have e2:decide ((x:Int)≤(valN s 63:Int))=true:=decide_eq_true (by omega);rw[e1,e2,hg,hl,ht];simp
theorem Xxf(s:List UInt8)(h:begR s=true):begL s=true:=by
 unfold begR at h;simp only[Bool.and_eq_true,decide_eq_true_eq,List.any_eq_true] at h;obtain⟨⟨⟨h1,h2⟩,h3⟩,x,_,hx⟩:=h;unfold candB at hx;simp only[Bool.and_eq_true,decide_eq_true_eq] at hx;obtain⟨⟨_,hg⟩,hl,ht⟩:=hx;have:=(Xh3 x hg).beg s.length (by omega) (by omega);rw[ht] at this;exact this
end Dec
namespace Dec
open Go.Lib
theorem Xh5{s:List UInt8}(h:begL s=true):s.length≠0∧s.length≤3:=by
 constructor
 ·intro h0;rw[List.eq_nil_of_length_eq_zero h0] at h;cases h
 ·rcases Nat.lt_or_ge s.length 4 with h1 | h1
  ·omega
  ·rw[beg4 s h1] at h;cases h
theorem valA(a:UInt8)(rest:Nat):(192≤a.toNat∧a.toNat<224→valN [a] rest=(a.toNat - 192) *64+rest)∧
 (224≤a.toNat∧a.toNat<240→valN [a] rest=((a.toNat - 224) *64+rest) *64+rest)∧
 (240≤a.toNat∧a.toNat<248→valN [a] rest=(((a.toNat - 240) *64+rest) *64+rest) *64+rest):=by
 refine⟨fun h=>?_,fun h=>?_,fun h=>?_⟩
 ·unfold valN;rw[show nb [a] 0=a.toNat from rfl,head2 h];rfl
 ·unfold valN;rw[show nb [a] 0=a.toNat from rfl,head3 h];rfl
 ·unfold valN;rw[show nb [a] 0=a.toNat from rfl,head4 h];rfl
theorem valAB(a b:UInt8)(rest:Nat):(224≤a.toNat∧a.toNat<240→valN [a,b] rest=((a.toNat - 224) *64+b.toNat % 64) *64+rest)∧
 (240≤a.toNat∧a.toNat<248→valN [a,b] rest=(((a.toNat - 240) *64+b.toNat % 64) *64+rest) *64+rest):=by
 refine⟨fun h=>?_,fun h=>?_⟩
 ·unfold valN;rw[show nb [a,b] 0=a.toNat from rfl,head3 h];rfl
 ·unfold valN;rw[show nb [a,b] 0=a.toNat from rfl,head4 h];rfl
theorem XyJ(a b c:UInt8)(rest:Nat)(h:240≤a.toNat∧a.toNat<248):valN [a,b,c] rest=(((a.toNat - 240) *64+b.toNat % 64) *64+c.toNat % 64) *64+rest:=by
 unfold valN;rw[show nb [a,b,c] 0=a.toNat from rfl,head4 h];rfl
theorem Xfy(lo hi:Nat):(lo:Int)∈cands lo hi:=by simp [cands]
theorem Xxg(lo hi:Nat):((2048:Nat):Int)∈cands lo hi:=by simp [cands]
theorem Xtm(lo hi:Nat):((65536:Nat):Int)∈cands lo hi:=by simp [cands]
theorem X3K{n:Nat}(h:n≤1114111∧(n<55296∨57343<n)):goodB (n:Int)=true:=(X4N _).2 (by omega)
theorem Xxh(s:List UInt8)(h:begL s=true):begR s=true:=by
 obtain⟨h0,h3⟩:=Xh5 h
 match s,h0,h3 with
 |
  [a],_,_=>
  have ha:=(beg1 a).1 h;have hn:nb [a] 0=a.toNat:=rfl;obtain⟨v2,v3,v4⟩:=valA a 0;obtain⟨w2,w3,w4⟩:=valA a 63;rcases (by omega:a.toNat<224∨a.toNat=224∨(224<a.toNat∧a.toNat<240)∨a.toNat=240∨240<a.toNat) with h1 | h1 | h1 | h1 | h1
  ·have e1:=v2 (by omega);have e2:=w2 (by omega);obtain⟨x,y,e,hx,hy⟩:=enc2 (valN [a] 0) (by omega);refine X7w [a] (by simp) (by simp) (by rw[hn,head2 (by omega)];simp) (valN [a] 0) (Xfy _ _) (Nat.le_refl _) (by omega) (X3K (by omega)) (by rw[e,hn,head2 (by omega)];rfl) ?_;rw[e];simp only[List.length_singleton,List.take_succ_cons,List.take_zero,List.cons.injEq,and_true];exact X3A (by omega)
  ·have e1:=v3 (by omega);have e2:=w3 (by omega);obtain⟨x,y,z,e,hx,hy,hz⟩:=enc3 2048 (by omega);refine X7w [a] (by simp) (by simp) (by rw[hn,head3 (by omega)];simp) 2048 (Xxg _ _) (by omega) (by omega) (X3K (by omega)) (by rw[e,hn,head3 (by omega)];rfl) ?_;rw[e];simp only[List.length_singleton,List.take_succ_cons,List.take_zero,List.cons.injEq,and_true];exact X3A (by omega)
  ·have e1:=v3 (by omega);have e2:=w3 (by omega);obtain⟨x,y,z,e,hx,hy,hz⟩:=enc3 (valN [a] 0) (by omega);refine X7w [a] (by simp) (by simp) (by rw[hn,head3 (by omega)];simp) (valN [a] 0) (Xfy _ _) (Nat.le_refl _) (by omega) (X3K (by omega)) (by rw[e,hn,head3 (by omega)];rfl) ?_;rw[e];simp only[List.length_singleton,List.take_succ_cons,List.take_zero,List.cons.injEq,and_true];exact X3A (by omega)
  ·have e1:=v4 (by omega);have e2:=w4 (by omega);obtain⟨x,y,z,t,e,hx,hy,hz,ht⟩:=enc4 65536 (by omega);refine X7w [a] (by simp) (by simp) (by rw[hn,head4 (by omega)];simp) 65536 (Xtm _ _) (by omega) (by omega) (X3K (by omega)) (by rw[e,hn,head4 (by omega)];rfl) ?_;rw[e];simp only[List.length_singleton,List.take_succ_cons,List.take_zero,List.cons.injEq,and_true];exact X3A (by omega)
  ·have e1:=v4 (by omega);have e2:=w4 (by omega);obtain⟨x,y,z,t,e,hx,hy,hz,ht⟩:=enc4 (valN [a] 0) (by omega);refine X7w [a] (by simp) (by simp) (by rw[hn,head4 (by omega)];simp) (valN [a] 0) (Xfy _ _) (Nat.le_refl _) (by omega) (X3K (by omega)) (by rw[e,hn,head4 (by omega)];rfl) ?_;rw[e];simp only[List.length_singleton,List.take_succ_cons,List.take_zero,List.cons.injEq,and_true];exact X3A (by omega)
 |
  [a,b],_,_=>
  have hf:=(beg2 a b).1 h;have ha:=hf.lo;unfold Fits at hf;have hb:b.toNat % 64=b.toNat - 128∧128≤b.toNat∧b.toNat≤191:=by omega
  have hn:nb [a,b] 0=a.toNat:=rfl;obtain⟨v3,v4⟩:=valAB a b 0;obtain⟨w3,w4⟩:=valAB a b 63;rcases (by omega:a.toNat<240∨240≤a.toNat) with h1 | h1
  ·have e1:=v3 (by omega);have e2:=w3 (by omega);obtain⟨x,y,z,e,hx,hy,hz⟩:=enc3 (valN [a,b] 0) (by omega);refine X7w [a,b] (by simp) (by simp) (by rw[hn,head3 (by omega)];simp) (valN [a,b] 0) (Xfy _ _) (Nat.le_refl _) (by omega) (X3K (by omega)) (by rw[e,hn,head3 (by omega)];rfl) ?_;rw[e];simp only[List.length_cons,List.length_nil,List.take_succ_cons,List.take_zero,List.cons.injEq,and_true];exact⟨X3A (by omega),X3A (by omega)⟩
  ·have e1:=v4 (by omega);have e2:=w4 (by omega);obtain⟨x,y,z,t,e,hx,hy,hz,ht⟩:=enc4 (valN [a,b] 0) (by omega);refine X7w [a,b] (by simp) (by simp) (by rw[hn,head4 (by omega)];simp) (valN [a,b] 0) (Xfy _ _) (Nat.le_refl _) (by omega) (X3K (by omega)) (by rw[e,hn,head4 (by omega)];rfl) ?_;rw[e];simp only[List.length_cons,List.length_nil,List.take_succ_cons,List.take_zero,List.cons.injEq,and_true];exact⟨X3A (by omega),X3A (by omega)⟩
 |
  [a,b,c],_,_=>
  obtain⟨hf,h1,d,f⟩:=(beg3 a b c).1 h;have ha:=hf.lo;unfold Fits at hf;have hb:b.toNat % 64=b.toNat - 128∧128≤b.toNat∧b.toNat≤191:=by omega
  have hc:c.toNat % 64=c.toNat - 128:=by omega
  have hn:nb [a,b,c] 0=a.toNat:=rfl;have e1:=XyJ a b c 0 (by omega);have e2:=XyJ a b c 63 (by omega);obtain⟨x,y,z,t,e,hx,hy,hz,ht⟩:=enc4 (valN [a,b,c] 0) (by omega);refine X7w [a,b,c] (by simp) (by simp) (by rw[hn,head4 (by omega)];simp) (valN [a,b,c] 0) (Xfy _ _) (Nat.le_refl _) (by omega) (X3K (by omega)) (by rw[e,hn,head4 (by omega)];rfl) ?_;rw[e];simp only[List.length_cons,List.length_nil,List.take_succ_cons,List.take_zero,List.cons.injEq,and_true];exact⟨X3A (by omega),X3A (by omega),X3A (by omega)⟩
theorem XA7(s:List UInt8):begR s=begL s:=by
 rw[Bool.eq_iff_iff];exact⟨Xxf s,Xxh s⟩
theorem Xh6(a b:UInt8)(h:(decL [a,b]).2=2):X5j [a,b]:=by
 rw[dec2] at h;unfold decodeN at h;have hb:=b.toNat_lt;by_cases h1:a.toNat<128
 ·rw[if_pos h1] at h;simp at h
 rw[if_neg h1] at h;by_cases h2:a.toNat / 32=6∧(1<2∧b.toNat / 64=2)
 ·rw[if_pos h2] at h;by_cases h3:a.toNat % 32 *64+b.toNat % 64≥128
  ·obtain⟨x,y,e,hx,hy⟩:=enc2 (valN [a,b] 0) (by rw[val2 a b (by omega)];omega);have hv:=val2 a b (by omega) 0;refine⟨by simp,by rw[show nb [a,b] 0=a.toNat from rfl,head2 (by omega)];rfl,X3K (by omega),?_⟩;rw[e];simp only[List.cons.injEq,and_true];exact⟨X3A (by omega),X3A (by omega)⟩
  ·rw[if_neg h3] at h;simp at h
 ·rw[if_neg h2,if_neg (by omega),if_neg (by omega)] at h;simp at h
theorem Xh7(a b c:UInt8)(hf:Fits a.toNat b.toNat)(h:(decL [a,b,c]).2=3):X5j [a,b,c]:=by
 have ha:=hf.lo;rw[dec3] at h;unfold decodeN at h;rw[if_neg (by omega),if_neg (by omega)] at h;by_cases h2:a.toNat / 16=14∧(1<3∧b.toNat / 64=2)∧(2<3∧c.toNat / 64=2)
 ·rw[if_pos h2] at h;by_cases h3:a.toNat % 16 *4096+b.toNat % 64 *64+c.toNat % 64≥2048∧(a.toNat % 16 *4096+b.toNat % 64 *64+c.toNat % 64<55296∨(57344≤a.toNat % 16 *4096+b.toNat % 64 *64+c.toNat % 64∧a.toNat % 16 *4096+b.toNat % 64 *64+c.toNat % 64≤1114111))
  ·have hv:=val3 a b c (by omega) 0;obtain⟨x,y,z,e,hx,hy,hz⟩:=enc3 (valN [a,b,c] 0) (by omega);refine⟨by simp,by rw[show nb [a,b,c] 0=a.toNat from rfl,head3 (by omega)];rfl,X3K (by omega),?_⟩;rw[e];simp only[List.cons.injEq,and_true];exact⟨X3A (by omega),X3A (by omega),X3A (by omega)⟩
  ·rw[if_neg h3] at h;simp at h
 ·rw[if_neg h2,if_neg (by omega)] at h;simp at h
theorem Xh8(a b c d:UInt8)(hf:Fits a.toNat b.toNat)(h1:240≤a.toNat)(h:(decL [a,b,c,d]).2=4):X5j [a,b,c,d]:=by
 have ha:=hf.lo;rw[dec4] at h;unfold decodeN at h;rw[if_neg (by omega),if_neg (by omega),if_neg (by omega)] at h;by_cases h2:a.toNat / 8=30∧(1<4∧b.toNat / 64=2)∧(2<4∧c.toNat / 64=2)∧(3<4∧d.toNat / 64=2)
 ·rw[if_pos h2] at h;unfold Fits at hf;have hv:=val4 a b c d (by omega) 0;obtain⟨x,y,z,t,e,hx,hy,hz,ht⟩:=enc4 (valN [a,b,c,d] 0) (by omega);refine⟨by simp,by rw[show nb [a,b,c,d] 0=a.toNat from rfl,head4 (by omega)];rfl,X3K (by omega),?_⟩;rw[e];simp only[List.cons.injEq,and_true];exact⟨X3A (by omega),X3A (by omega),X3A (by omega),X3A (by omega)⟩
 ·rw[if_neg h2] at h;simp at h
theorem Xtn{s:List UInt8}{c:UInt8}(hs:saneL s=true)(h:X5j (s++ [c])):feedL s c=([],[(valN (s++ [c]) 0:Int)]):=by
 have hf:=Xpo h;have hd:decL (s++ [c])=(valN (s++ [c]) 0,(s++ [c]).length):=by rw[hf.dec];rfl
 rw[X9S hs hf.nobeg (by rw[hd];simp),hd]
theorem Xto{c:UInt8}(h: ¬X5j [c])(hb:begL [c]=false):feedL [] c=([],[65533]):=by
 rw[X6a,hb];have h1: ¬c.toNat<128:=by
  intro h1;obtain⟨a,e,ha⟩:=enc1 c.toNat (by omega);refine h ⟨by simp,by rw[show nb [c] 0=c.toNat from rfl,head1 h1];rfl,?_,?_⟩
  ·rw[val1 c h1];exact X3K (by omega)
  ·rw[val1 c h1,e,X3A ha]
 rw[XbX,if_neg h1];rfl
theorem Xtp{s:List UInt8}{c:UInt8}(hs:saneL s=true)(h0:s≠ [])(h: ¬X5j (s++ [c]))(hb:begL (s++ [c])=false):feedL s c=((feedL [] c).1,65533::(feedL [] c).2):=by
 refine X9T hs hb fun hd=>h ?_;have e:begL s=true:=by
  unfold saneL at hs;rcases Bool.or_eq_true_iff.1 hs with h1 | h1
  ·exact absurd (List.eq_nil_of_length_eq_zero (of_decide_eq_true h1)) h0
  ·exact h1
 obtain⟨h1,h3⟩:=Xh5 e
 match s,h1,h3 with
 | [a],_,_=>exact Xh6 a c hd
 | [a,b],_,_=>exact Xh7 a b c ((beg2 a b).1 e) hd
 | [a,b,d],_,_=>exact Xh8 a b d c ((beg3 a b d).1 e).1 ((beg3 a b d).1 e).2.1 hd
end Dec
end Go.Proofs.YtkofnpkopbnocaaGreatDoor
namespace Go.Proofs.YtkofnpkopbnocaaGreatDoor.Tx
open Go.RowKit Go.Lib
theorem X63(r:Int)(w:World):
 Calls Tryz.prog 135 #[.int .i64 r] w fun e w'=>e= .returned (.bool (Dec.goodB r))∧w=w':=by
 by_cases h0:0≤r
 ·by_cases h1:r≤1114111
  ·by_cases h2:r<55296;all_goals
    go_enter Tryz.func135,Tryz.ntmps135;go_wp2;go_ret;exact⟨X0p (by unfold Dec.goodB;grind),rfl⟩
  ·go_enter Tryz.func135,Tryz.ntmps135;go_wp2;go_ret;exact⟨X0p (by unfold Dec.goodB;grind),rfl⟩
 ·go_enter Tryz.func135,Tryz.ntmps135;go_wp2;go_ret;exact⟨X0p (by unfold Dec.goodB;grind),rfl⟩
theorem X2e(l:List UInt8)(cs:Array Value)(n:Nat)(hn:n=l.length)(h:cs.toList=l.map fun c=>Value.int .u8 (c.toNat:Int))(W:World):
 (convert 140 9 (.slice (some ⟨W.heap.size,0,none⟩) n n)).run Tryz.prog (W.alloc (.cells cs 5))= .ok (.string ⟨l.toArray⟩) (W.alloc (.cells cs 5)):=by
 subst hn;refine run_convert_bytes_back (P:=Tryz.prog) _ 140 9 5 ⟨W.heap.size,0,none⟩ l.length l Tryz.underlying140 Tryz.underlying5 Tryz.underlying9 ?_;intro j hj;have a:(⟨W.heap.size,0,none⟩:Addr).add j=⟨W.heap.size,j,none⟩:=by unfold Addr.add;split <;> simp_all
 rw[a];have e:cs[j]? =some (.int .u8 (l[j].toNat:Int)):=by
  rw[←Array.getElem?_toList,h,List.getElem?_map,List.getElem?_eq_getElem hj];rfl
 simpa using e
def XaS(r:Int)(w:World)(e:Ending)(w':World):Prop:=e= .returned (.string ⟨(Lib.encodeRune r).toArray⟩)∧Below w.heap.size w w'
theorem X9y(r:Int)(hg:Dec.goodB r=true)(w:World):
 Calls Tryz.prog 136 #[.int .i64 r] w (XaS r w):=by
 have f:=(Dec.X4N r).1 hg;obtain⟨n,rfl⟩:=Int.eq_ofNat_of_zero_le f.1;rcases (by omega:n≤127∨(128≤n∧n≤2047)∨((2048≤n∧n<55296)∨(57343<n∧n≤65535))∨(65536≤n∧n≤1114111)) with h | h | h | h
 ·obtain⟨a,e,h1⟩:=Dec.enc1 n h;have g:=fun W=>X2e [a] #[.int .u8 (n:Int)] 1 rfl (by rw[←h1];rfl) W;replace e:=hid e;have t1:(n:Int)<128:=by omega
  clear h hg f h1;go_enter Tryz.func136,Tryz.ntmps136;go_wp2_with fail;go_ret;exact⟨by rw[e.out];rfl,X04 _ _⟩
 ·obtain⟨a,b,e,h1,h2⟩:=Dec.enc2 n h;have g:=fun W=>X2e [a,b] #[.int .u8 (192+(n:Int) / 64), .int .u8 (128+(n:Int) % 64)] 2 rfl (by rw[show 192+(n:Int) / 64=(a.toNat:Int) by omega,show 128+(n:Int) % 64=(b.toNat:Int) by omega];rfl) W;replace e:=hid e;have t1:decide ((n:Int)<128)=false:=by simp;omega
  have t2:(n:Int)<2048:=by omega
  have t3:(128:Int)≤(n:Int):=by omega
  clear h hg f h1 h2;go_enter Tryz.func136,Tryz.ntmps136;go_wp2_with fail;go_ret;exact⟨by rw[e.out];rfl,X04 _ _⟩
 ·obtain⟨a,b,c,e,h1,h2,h3⟩:=Dec.enc3 n h;have g:=fun W=>X2e [a,b,c] #[.int .u8 (224+(n:Int) / 4096), .int .u8 (128+(n:Int) / 64 % 64), .int .u8 (128+(n:Int) % 64)] 3 rfl (by rw[show 224+(n:Int) / 4096=(a.toNat:Int) by omega,show 128+(n:Int) / 64 % 64=(b.toNat:Int) by omega,show 128+(n:Int) % 64=(c.toNat:Int) by omega];rfl) W;replace e:=hid e;have t1:decide ((n:Int)<128)=false:=by simp;omega
  have t2:decide ((n:Int)<2048)=false:=by simp;omega
  have t4:(n:Int)<65536:=by omega
  have t3:(2048:Int)≤(n:Int):=by omega
  clear h hg f h1 h2 h3;go_enter Tryz.func136,Tryz.ntmps136;go_wp2_with fail;go_ret;exact⟨by rw[e.out];rfl,X04 _ _⟩
 ·obtain⟨a,b,c,d,e,h1,h2,h3,h4⟩:=Dec.enc4 n h;have g:=fun W=>X2e [a,b,c,d] #[.int .u8 (240+(n:Int) / 262144), .int .u8 (128+(n:Int) / 4096 % 64), .int .u8 (128+(n:Int) / 64 % 64), .int .u8 (128+(n:Int) % 64)] 4 rfl (by rw[show 240+(n:Int) / 262144=(a.toNat:Int) by omega,show 128+(n:Int) / 4096 % 64=(b.toNat:Int) by omega,show 128+(n:Int) / 64 % 64=(c.toNat:Int) by omega,show 128+(n:Int) % 64=(d.toNat:Int) by omega];rfl) W;replace e:=hid e;have t1:decide ((n:Int)<128)=false:=by simp;omega
  have t2:decide ((n:Int)<2048)=false:=by simp;omega
  have t4:decide ((n:Int)<65536)=false:=by simp;omega
  have t3:(65536:Int)≤(n:Int):=by omega
  have t5:(n:Int)≤1114111:=by omega
  clear h hg f h1 h2 h3 h4;go_enter Tryz.func136,Tryz.ntmps136;go_wp2_with fail;go_ret;exact⟨by rw[e.out];rfl,X04 _ _⟩
def XaT(l:List UInt8)(w:World)(e:Ending)(w':World):Prop:=e= .returned (.string ⟨l.toArray⟩)∧Below w.heap.size w w'
theorem X7i{l:List Int}{k:Nat}{x:Int}{S B:ByteArray}(hk:k<l.length)(hx:l[k]=x)(hS:S.data.toList=Dec.textL (l.take k))(hB:B.data.toList=Lib.encodeRune (Dec.fix x)):(S++B).data.toList=Dec.textL (l.take (k+1)):=by
 rw[List.take_succ_eq_append_getElem hk,Dec.Xpk,hx,←hS,←hB];simp
theorem X9z(v0:Value)(l:List Int)(w:World)(hlen:l.length≤1000)(hr:RI w v0 l):
 Calls Tryz.prog 160 #[v0] w (XaT (Dec.textL l) w):=by
 obtain⟨p,cap,rfl⟩:=X0b hr;have hp:=hid (ri_at hr);replace hr:=hid hr;go_enter Tryz.func160,Tryz.ntmps160;go_wp2_with fail;go_loopg [3,4] l.length (fun g v i wr=>∃k:Nat,k≤l.length∧g=l.length - k∧i= .int .i64 k∧∃S:ByteArray,v= .string S∧Hid (S.data.toList=Dec.textL (l.take k))∧Below w.heap.size w wr)
 case atStart=>exact⟨0,Nat.zero_le _,rfl,rfl,⟨#[]⟩,rfl,hid rfl,Below.refl _ _⟩
 case round=>
  obtain⟨k,hk,rfl,rfl,S,rfl,hS,d⟩:=hrel;have q:S.size≤4000:=by
   have h1:=Dec.Xjf (l.take k);rw[←hS.out] at h1;have h2:S.size=S.data.toList.length:=rfl;have h3:(l.take k).length≤k:=List.length_take_le _ _;omega
  by_cases hlt:k<l.length
  ·obtain⟨x,hx⟩: ∃x,l[k]=x:=⟨_,rfl⟩;obtain⟨b,off,rfl,hb,hc⟩:=hp.out (by omega);have n:wr.cell? ⟨b,off+k,none⟩=some (.int .i64 x):=by
    rw[d.cell hb,←hx];exact hc k hlt
   clear hc;replace hx:=hid hx;have c:=X63 x wr;have a:=X9y (Dec.fix x) (Dec.Xng x);obtain⟨B,hB⟩: ∃B:ByteArray,(⟨(Lib.encodeRune (Dec.fix x)).toArray⟩:ByteArray)=B:=⟨_,rfl⟩;have hF:Hid (B.data.toList=Lib.encodeRune (Dec.fix x)):=hid (by rw[←hB]);have o:B.size≤4:=by rw[←hB];exact Dec.X8s _
   unfold XaS at a;rw[hB] at a;clear hB;replace d:=hid d;cases hG:Dec.goodB x with
   |
    true=>
    rw[hG] at c;rw[Dec.Xnh hG] at a;replace c:=hid c;replace a:=hid a;clear hG;go_wp2_with fail;refine c.out.mono ?_;rintro e w1 ⟨rfl,rfl⟩;go_wp2_with fail;refine(a.out _).mono ?_;rintro e w2 ⟨rfl,f⟩;replace f:=hid (d.out.trans (f.mono d.out.size));go_wp2_with fail;go_roundg (l.length - (k+1))
    case measure=>omega
    case rel=>exact⟨k+1,by omega,rfl,by go_num,_,rfl,hid (X7i hlt hx.out hS.out hF.out),f.out⟩
   |
    false=>
    rw[hG] at c;have m:Dec.fix x=65533:=by unfold Dec.fix;rw[hG];rfl
    rw[m] at a;replace c:=hid c;replace a:=hid a;clear hG m;go_wp2_with fail;refine c.out.mono ?_;rintro e w1 ⟨rfl,rfl⟩;go_wp2_with fail;refine(a.out _).mono ?_;rintro e w2 ⟨rfl,f⟩;replace f:=hid (d.out.trans (f.mono d.out.size));go_wp2_with fail;go_roundg (l.length - (k+1))
    case measure=>omega
    case rel=>exact⟨k+1,by omega,rfl,by go_num,_,rfl,hid (X7i hlt hx.out hS.out hF.out),f.out⟩
  ·have j:Hid (S=⟨(Dec.textL l).toArray⟩):=hid (by
    have h:=hS.out;rw[List.take_of_length_le (by omega)] at h;rw[←h])
   replace d:=hid d;go_wp2_with fail;go_ret;exact⟨by rw[←j.out];rfl,d.out⟩
end Go.Proofs.YtkofnpkopbnocaaGreatDoor.Tx
namespace Go.Proofs.YtkofnpkopbnocaaGreatDoor.Tx
end Go.Proofs.YtkofnpkopbnocaaGreatDoor.Tx
namespace Go.Proofs.YtkofnpkopbnocaaGreatDoor.Tq
open Go.RowKit Go.Lib Tx
theorem X32{a b:Nat}(h:a=b):((a:Int) != (b:Int))=false:=by subst h;simp
theorem X19{w:World}(o:Obj)(n:Nat):Below w.heap.size w ((w.alloc o).drewN n):=by
 have h:=(Below.refl w.heap.size w).alloc (Nat.le_refl _) o;exact⟨h.os,h.tape,h.output,h.size,h.block⟩
def Own(B:Nat)(v:Value)(l:List Int)(w:World):Prop:=w.ownsRow B 3 1 v l.length (l.map (Value.int .i64))
theorem X27(B:Nat)(w:World):Own B (.slice none 0 0) [] w:=World.ownsRow_nil w B 3 1
theorem X6f(B:Nat)(x:Int)(w:World)(hB:B≤w.heap.size):Own B (.slice (some ⟨w.heap.size,0,none⟩) 1 1) [x] (w.alloc (.cells #[.int .i64 x] 3)):=
 ⟨rfl, .inr ⟨w.heap.size,1,#[.int .i64 x],rfl,hB,heap_alloc_new w _,Nat.le_refl _,by decide,rfl,rfl⟩⟩
theorem X1z{s:ByteArray}(h:s.size=0):s.toList.isEmpty=true:=by
 rw[Lib.toList_data];cases s with
 |
  mk d=>
  have h':d.size=0:=h;simpa using h'
theorem X0X{s:ByteArray}(h: ¬s.size=0):s.toList.isEmpty=false:=by
 rw[Lib.toList_data];cases s with
 |
  mk d=>
  have h': ¬d.size=0:=h;simpa using h'
def Box(w:World)(k:Nat)(v:Value):Prop:=k<w.heap.size∧w.cell? ⟨k,0,none⟩=some v∧w.frozen? ⟨k,0,none⟩=false
theorem X0R(w:World)(v:Value)(T:TypeId):Box (w.alloc (.cells #[v] T)) w.heap.size v:=by
 refine⟨by simp,?_,?_⟩
 ·simp
 ·simp
theorem X0F{w:World}{k:Nat}{v:Value}(h:Box w k v)(o:Obj):Box (w.alloc o) k v:=by
 obtain⟨h0,h1,h2⟩:=h;exact⟨by simp;omega,by rw[World.cell?_alloc_lt _ _ _ h0];exact h1,by rw[World.frozen?_alloc_past _ _ _ h0];exact h2⟩
theorem X0n{w w1:World}{k:Nat}{v:Value}(h:Box w k v)(hb:Below w.heap.size w w1):Box w1 k v:=by
 obtain⟨h0,h1,h2⟩:=h;have:=hb.size;exact⟨by omega,by rw[hb.cell h0];exact h1,by rw[hb.frozen h0];exact h2⟩
theorem X5T{w w1:World}{k:Nat}{v:Value}{row:Option Nat}(h:Box w k v)(hg:w.drew.grownBy w1 row)(hne:some k≠row):Box w1 k v:=by
 obtain⟨h0,h1,h2⟩:=h;have hb:=hg.block k h0 hne;have:=hg.size;exact⟨Nat.lt_of_lt_of_le h0 this,by rw[World.cell?_of_block (w:=w) hb];exact h1,by rw[World.frozen?_of_block (w:=w) hb];exact h2⟩
theorem X6g{B:Nat}{w0 w w1:World}{k n c:Nat}(h:Below B w0 w)(hg:w.drew.grownBy w1 (Value.slice (some ⟨k,0,none⟩) n c).ownBlock)(hB:B≤w.heap.size)(hk:B≤k):Below B w0 w1:=
 h.drew.grown hg hB (fun j hj=>by simp [Value.ownBlock] at hj;omega)
theorem X2l(c:UInt8)(W:World):(convert 140 9 (.slice (some ⟨W.heap.size,0,none⟩) 1 1)).run Tryz.prog (W.alloc (.cells #[.int .u8 c.toNat] 5))= .ok (.string ⟨#[c]⟩) (W.alloc (.cells #[.int .u8 c.toNat] 5)):=by
 refine run_convert_bytes_back (P:=Tryz.prog) _ 140 9 5 ⟨W.heap.size,0,none⟩ 1 [c] Tryz.underlying140 Tryz.underlying5 Tryz.underlying9 ?_;intro j hj;have:j=0:=by simpa using hj
 subst this;simp [Addr.add]
theorem X2x{w w1:World}{o1 o2:Obj}(hb1:Below ((w.alloc o1).alloc o2).heap.size ((w.alloc o1).alloc o2) w1):Below w.heap.size w w1:=
 (((Below.refl _ _).alloc (Nat.le_refl _) _).alloc (by simp) _).trans (hb1.mono (by simp;omega))
theorem X1j{w w1 w2:World}{o3:Obj}(hb1:Below w.heap.size w w1)(hb2:Below (w1.alloc o3).heap.size (w1.alloc o3) w2):Below w.heap.size w w2:=
 (hb1.alloc hb1.size _).trans (hb2.mono (by have:=hb1.size;simp;omega))
theorem X1W(B:Nat)(x:Int)(w:World)(k:Nat)(hk:w.heap.size=k)(hB:B≤w.heap.size):Own B (.slice (some ⟨k,0,none⟩) 1 1) [x] (w.alloc (.cells #[.int .i64 x] 3)):=by
 subst hk;exact X6f B x w hB
theorem X2H:(Tryz.prog.info? 3).map (fun i=>(i.zero,i.size,i.bytes))=some (some (.int .i64 0),1,8):=by kernel_rfl
theorem X5r{B:Nat}{v:Value}{l:List Int}{w:World}(h:Own B v l w):Own B v l w.drew:=h
theorem X1N{B:Nat}{v:Value}{l:List Int}{w:World}(h:Own B v l w)(o:Obj):Own B v l (w.alloc o):=World.ownsRow.alloc h o
theorem X44{B:Nat}{v:Value}{l:List Int}{w:World}(h:Own B v l w):
 (v= .slice none 0 0∧l= [])∨∃g cap,v= .slice (some ⟨g,0,none⟩) l.length cap∧B≤g∧g<w.heap.size∧∀j u,(l.map (Value.int .i64))[j]? =some u→w.cell? ((⟨g,0,none⟩:Addr).add j)=some u:=by
 have hc:=fun g hg=>World.ownsRow.cells (g:=g) h hg;have a:=World.ownsRow.lt h;rcases h.2 with⟨rfl,hl⟩ | ⟨g,cap,b,rfl,hB,_⟩
 ·exact .inl ⟨rfl,List.eq_nil_of_length_eq_zero hl⟩
 ·exact .inr ⟨g,cap,rfl,hB,(a g rfl).2,hc g rfl⟩
theorem X28{B:Nat}{v:Value}{l:List Int}{w:World}(h:Own B v l w)(a:Addr)(u:Value)(hne:v.ownBlock=none∨v.ownBlock≠some a.block):Own B v l (w.setCell a u):=by
 refine World.ownsRow.kept (row:=some a.block) h ⟨rfl,rfl,rfl,by simp [World.setCell],fun k _ hk=>?_⟩ hne;exact Below.heap_setCell _ _ _ _ (fun e=>hk (by rw[e]))
theorem X8p{j k n c:Nat}(h:j≠k):some j≠(Value.slice (some ⟨k,0,none⟩) n c).ownBlock:=by
 intro e;exact h (Option.some.inj e)
theorem X2y{B B':Nat}{v:Value}{l:List Int}{w:World}(h:Own B' v l w)(hB:B≤B'):Own B v l w:=by
 refine⟨h.1,?_⟩;rcases h.2 with hn | ⟨g,cap,a,hv,hg,r⟩
 ·exact .inl hn
 ·exact .inr ⟨g,cap,a,hv,Nat.le_trans hB hg,r⟩
theorem X3y{B k:Nat}{v:Value}{l:List Int}{w:World}(h:Own B v l w)(hk:k<B):v.ownBlock=none∨v.ownBlock≠some k:=by
 refine .inr fun e=>?_;have:=(World.ownsRow.lt h k e).1;omega
theorem X17{B n:Nat}{v:Value}{l:List Int}{xs:List Value}{w:World}(h:w.ownsRow B 3 1 v n xs)(hn:n=l.length)(hx:xs=l.map (Value.int .i64)):Own B v l w:=by
 subst hn;subst hx;exact h
theorem X12(l:List Int): ∀u∈l.map (Value.int .i64),u.oneCell'=true:=by
 intro u hu;obtain⟨x,_,rfl⟩:=List.mem_map.1 hu;rfl
theorem X3g(c:UInt8)(W:World)(a:Addr)(u:Value):(convert 140 9 (.slice (some ⟨W.heap.size,0,none⟩) 1 1)).run Tryz.prog ((W.setCell a u).alloc (.cells #[.int .u8 c.toNat] 5))= .ok (.string ⟨#[c]⟩) ((W.setCell a u).alloc (.cells #[.int .u8 c.toNat] 5)):=by
 have h:=X2l c (W.setCell a u);rw[show (W.setCell a u).heap.size=W.heap.size from by simp] at h;exact h
theorem X45{w:World}{k:Nat}{v:Value}(h:Box w k v)(a:Addr)(u:Value)(hne:a.block≠k):Box (w.setCell a u) k v:=by
 obtain⟨h0,h1,h2⟩:=h;refine⟨by simpa using h0,?_,by rw[World.frozen?_setCell];exact h2⟩;rw[World.cell?_setCell_other]
 ·exact h1
 ·intro e;exact hne (by rw[e])
theorem X71(n b0 b1 b2:Nat)(h:4≤n):Dec.fullN n b0 b1 b2=true:=by
 have h1:Lib.firstT b0 % 8≤n:=by
  rcases Lib.firstT_cases b0 with hX | hX | hX | hX | hX | hX | hX | hX | hX <;> rw[hX] <;> omega
 have h2:n≠0:=by omega
 simp [Dec.fullN,h1,h2]
theorem X72{s:ByteArray}(h:Dec.begB s=true):s.size≤3:=by
 rcases Nat.lt_or_ge 3 s.size with h3 | h3
 ·have hf:Dec.fullB s=true:=X71 _ _ _ _ h3;simp [Dec.begB,hf] at h
 ·exact h3
theorem X5U{s:ByteArray}(h:Dec.saneB s=true):s.size≤3:=by
 unfold Dec.saneB at h;rcases Bool.or_eq_true _ _ ▸ h with h | h
 ·have:=of_decide_eq_true h;omega
 ·exact X72 h
theorem X3O{w:World}{k:Nat}{v u:Value}(h:Box w k v):Box (w.setCell ⟨k,0,none⟩ u) k u:=
 ⟨by simpa using h.1,World.cell?_setCell_same _ _ _ h.2.1,by rw[World.frozen?_setCell];exact h.2.2⟩
def HRes(x:Nat)(w:World)(e:Ending)(w':World):Prop:=e= .returned (.tuple #[.int .i64 ((Dec.headN x).1:Int), .int .i64 ((Dec.headN x).2:Int)])∧w=w'
theorem X4p{x:Nat}{a b:Nat}{a' b':Int}{w:World}(h:Dec.headN x=(a,b))(ha:a'=a)(hb:b'=b):HRes x w (.returned (.tuple #[.int .i64 a', .int .i64 b'])) w:=by
 unfold HRes;rw[h,ha,hb];exact⟨rfl,rfl⟩
theorem X6s(x:Nat)(hx:x<256)(w:World):
 Calls Tryz.prog 133 #[.int .i64 (x:Int)] w (HRes x w):=by
 by_cases h1:x<128
 ·have H:=hid (Dec.head1 h1);have c:(x:Int)<128:=by omega
  clear h1;go_enter Tryz.func133,Tryz.ntmps133;go_wp2_with fail
  go_ret2
  exact X4p H.out rfl rfl
 ·have c:decide ((x:Int)<128)=false:=by simp;omega
  by_cases h2:x<192
  ·have H:Hid (Dec.headN x=(0,0)):=hid (by unfold Dec.headN;rw[if_neg h1,if_neg (by omega),if_neg (by omega),if_neg (by omega)]);have d:decide ((192:Int)≤(x:Int))=false:=by simp;omega
   have a:decide ((224:Int)≤(x:Int))=false:=by simp;omega
   have b:decide ((240:Int)≤(x:Int))=false:=by simp;omega
   go_enter Tryz.func133,Tryz.ntmps133;go_wp2_with fail
   go_ret2
   exact X4p H.out rfl rfl
  ·have d:(192:Int)≤(x:Int):=by omega
   by_cases h3:x<224
   ·have H:=hid (Dec.head2 ⟨by omega,h3⟩);have a:(x:Int)<224:=by omega
    go_enter Tryz.func133,Tryz.ntmps133;go_wp2_with fail
    go_ret2
    exact X4p H.out rfl (by omega)
   ·have a:decide ((x:Int)<224)=false:=by simp;omega
    have f:(224:Int)≤(x:Int):=by omega
    by_cases h4:x<240
    ·have H:=hid (Dec.head3 ⟨by omega,h4⟩);have b:(x:Int)<240:=by omega
     go_enter Tryz.func133,Tryz.ntmps133;go_wp2_with fail
     go_ret2
     exact X4p H.out rfl (by omega)
    ·have b:decide ((x:Int)<240)=false:=by simp;omega
     have g:(240:Int)≤(x:Int):=by omega
     by_cases h5:x<248
     ·have H:=hid (Dec.head4 ⟨by omega,h5⟩);have e:(x:Int)<248:=by omega
      go_enter Tryz.func133,Tryz.ntmps133;go_wp2_with fail
      go_ret2
      exact X4p H.out rfl (by omega)
     ·have e:decide ((x:Int)<248)=false:=by simp;omega
      have H:Hid (Dec.headN x=(0,0)):=hid (by unfold Dec.headN;rw[if_neg h1,if_neg (by omega),if_neg (by omega),if_neg (by omega)]);go_enter Tryz.func133,Tryz.ntmps133;go_wp2_with fail
      go_ret2
      exact X4p H.out rfl rfl
theorem X4q(x:Nat)(hx:x<256):(Dec.headN x).1≤4∧(Dec.headN x).2<128:=by
 unfold Dec.headN
 repeat' split
 all_goals simp <;> omega
theorem XaP(l:List UInt8)(rest v0:Nat)(hr:rest<64)(hv:v0<128)(k:Nat)(hk:k≤3):Dec.valK l rest v0 k<33554432:=by
 have a: ∀k,Dec.valK l rest v0 k<128 *64 ^ k:=by
  intro k
  induction k with
  | zero=>simpa [Dec.valK] using hv
  |
   succ k ih=>
   unfold Dec.valK;have h1:(if k+1<l.length then Dec.nb l (k+1) % 64 else rest)<64:=by split <;> omega
   rw[Nat.pow_succ];omega
 have h:=a k;have h2:64 ^ k≤64 ^ 3:=Nat.pow_le_pow_right (by decide) hk;omega
theorem X6t{s:ByteArray}{l:List UInt8}(hl:s.data.toList=l)(k:Nat)(hk:k<l.length): ∃h:k<s.size,s[k]=l[k]:=by
 subst hl;refine⟨by simpa using hk,?_⟩;rfl
theorem X3D(s:ByteArray)(l:List UInt8)(hl:s.data.toList=l)(h0:0<l.length)(h4:l.length≤4)(rest:Nat)(hr:rest<64)(w:World):
 Calls Tryz.prog 134 #[.string s, .int .i64 (rest:Int)] w fun e w'=>e= .returned (.int .i64 (Dec.valN l rest:Int))∧w=w':=by
 have o:s.size=l.length:=by subst hl;rfl
 obtain⟨D,e0⟩:=X6t hl 0 h0;obtain⟨x0,p⟩: ∃x0,l[0]=x0:=⟨_,rfl⟩;rw[p] at e0;have q:Dec.nb l 0=x0.toNat:=by unfold Dec.nb;rw[List.getD_eq_getElem?_getD,List.getElem?_eq_getElem h0,p];rfl
 have k:=x0.toNat_lt;have t:(x0.toNat:Int)<256:=by omega
 obtain⟨r,c⟩:=X4q x0.toNat k;have b:=X6s x0.toNat k;obtain⟨n,hn⟩: ∃n,(Dec.headN x0.toNat).1=n:=⟨_,rfl⟩;obtain⟨v0,d⟩: ∃v0,(Dec.headN x0.toNat).2=v0:=⟨_,rfl⟩;unfold HRes at b;rw[hn] at r;rw[d] at c;rw[hn,d] at b;have f:Dec.valN l rest=Dec.valK l rest v0 (n - 1):=by unfold Dec.valN;rw[q,hn,d]
 rw[f];replace b:=hid b;replace hl:=hid hl;have z:s.size≤4:=by omega
 replace o:=hid o;clear f hn d q k p h0 h4;go_enter Tryz.func134,Tryz.ntmps134;go_wp2_with fail;refine(b.out _).mono ?_;rintro e w1 ⟨rfl,rfl⟩;go_wp2_with fail;go_loopg [6,7] 5 (fun g v i wr=>w=wr∧∃j:Nat,i= .int .i64 (j:Int)∧1≤j∧j≤n - 1+1∧g=6 - j∧∃V:Nat,v= .int .i64 (V:Int)∧Hid (Dec.valK l rest v0 (j - 1)=V))
 case atStart=>exact⟨rfl,1,rfl,Nat.le_refl _,by omega,rfl,v0,rfl,hid rfl⟩
 case round=>
  obtain⟨rfl,j,rfl,B,C,rfl,V,rfl,hV⟩:=hrel;have A:(V:Int)<33554432:=by have:=XaP l rest v0 hr c (j - 1) (by omega);rw[hV.out] at this;omega
  by_cases hlt:j<n
  ·have a:Dec.valK l rest v0 j=V *64+(if j<l.length then Dec.nb l j % 64 else rest):=by
    obtain⟨m,rfl⟩: ∃m,j=m+1:=⟨j - 1,by omega⟩
    show Dec.valK l rest v0 m *64+_=_
    rw[show Dec.valK l rest v0 m=V from hV.out]
   clear hV;by_cases hj:j<l.length
   ·obtain⟨E,ej⟩:=X6t hl.out j hj;obtain⟨x,hx⟩: ∃x,l[j]=x:=⟨_,rfl⟩;rw[hx] at ej;rw[if_pos hj,show Dec.nb l j=x.toNat by unfold Dec.nb;rw[List.getD_eq_getElem?_getD,List.getElem?_eq_getElem hj,hx];rfl] at a;have F:(x.toNat:Int)<256:=by have:=x.toNat_lt;omega
    replace hx:=hid hx;replace a:=hid a;go_wp2_with fail;go_roundg (6 - (j+1))
    case measure=>omega
    case rel=>exact⟨rfl,j+1,by go_num,by omega,by omega,rfl,V *64+x.toNat % 64,by congr 1,hid a.out⟩
   ·rw[if_neg hj] at a;have y:decide (j<s.size)=false:=by have:=o.out;simp;omega
    replace a:=hid a;go_wp2_with fail;go_roundg (6 - (j+1))
    case measure=>omega
    case rel=>exact⟨rfl,j+1,by go_num,by omega,by omega,rfl,V *64+rest,by congr 1,hid a.out⟩
  ·have u:decide (j<n)=false:=by simp;omega
   have h:Dec.valK l rest v0 (n - 1)=V:=by rw[←hV.out];congr 1;omega
   replace h:=hid h;clear hV;go_wp2_with fail;go_ret;exact⟨by rw[h.out];rfl,rfl⟩
def X9u(l:List UInt8)(w:World)(e:Ending)(w':World):Prop:=
 ∃v ok,e= .returned (.tuple #[.int .i64 v, .bool ok])∧(ok=true→Dec.X5j l∧v=(Dec.valN l 0:Int))∧(ok=false→¬Dec.X5j l)∧Below w.heap.size w w'
theorem X4H{l:List UInt8}{w w':World}{v:Int}(h: ¬Dec.X5j l)(hb:Below w.heap.size w w'):X9u l w (.returned (.tuple #[.int .i64 v, .bool false])) w':=
 ⟨v,false,rfl,(fun h=>by cases h),(fun _=>h),hb⟩
theorem X9v{l:List UInt8}(h0:0<l.length):Dec.nb l 0=l[0].toNat:=by unfold Dec.nb;rw[List.getD_eq_getElem?_getD,List.getElem?_eq_getElem h0];rfl
theorem XcV(s:ByteArray)(l:List UInt8)(hl:s.data.toList=l)(h0:0<l.length)(h4:l.length≤4)(w:World):
 Calls Tryz.prog 119 #[.string s] w (X9u l w):=by
 have o:s.size=l.length:=by subst hl;rfl
 obtain⟨v,e0⟩:=X6t hl 0 h0;have f:=X9v h0;obtain⟨x0,i⟩: ∃x0,l[0]=x0:=⟨_,rfl⟩;rw[i] at e0 f;have p:=x0.toNat_lt;have t:(x0.toNat:Int)<256:=by omega
 have r:=(X4q x0.toNat p).1;have b:=X6s x0.toNat p;have hz:((s.size:Int) == 0)=false:=beq_eq_false_iff_ne.2 (by omega);have c:=X3D s l hl h0 h4 0 (by decide);unfold HRes at b;obtain⟨n,hn⟩: ∃n,(Dec.headN x0.toNat).1=n:=⟨_,rfl⟩;rw[hn] at b r;have g:(Dec.headN (Dec.nb l 0)).1=n:=by rw[f,hn]
 replace b:=hid b;have u:s.size≤4:=by omega
 by_cases hne:n=s.size
 ·have t1:=X32 hne;have d:Dec.X5j l↔Dec.goodB (Dec.valN l 0:Int)=true∧Lib.encodeRune (Dec.valN l 0:Int)=l:=by
   unfold Dec.X5j;constructor
   ·exact fun h=>h.2.2
   ·exact fun h=>⟨by intro e;rw[e] at h0;simp at h0,by rw[g];omega,h⟩
  obtain⟨V,hV⟩: ∃V:Int,(Dec.valN l 0:Int)=V:=⟨_,rfl⟩;rw[hV] at d;replace c: ∀w,Calls Tryz.prog 134 #[.string s, .int .i64 0] w fun e w'=>e= .returned (.int .i64 V)∧w=w':=fun w=>by rw[←hV];exact c w
  have a:=X63 V;cases hG:Dec.goodB V with
  |
   false=>
   rw[hG] at a;have m:Hid (¬Dec.X5j l):=hid (by rw[d,hG];simp);replace c:=hid c;replace a:=hid a;clear d hG hV g hn f i hl h0 h4 o hne;go_enter Tryz.func119,Tryz.ntmps119;go_wp2_with fail;refine(b.out _).mono ?_;rintro e w1 ⟨rfl,rfl⟩;go_wp2_with fail;refine(c.out _).mono ?_;rintro e w1 ⟨rfl,rfl⟩;go_wp2_with fail;refine(a.out _).mono ?_;rintro e w1 ⟨rfl,rfl⟩;go_wp2_with fail
   go_ret2
   exact X4H m.out (Below.refl _ _)
  |
   true=>
   rw[hG] at a;have k:=hid (X9y V hG);replace c:=hid c;replace a:=hid a;rw[hG] at d;replace d:=hid d;replace hV:=hid hV;replace hl:=hid hl;clear hG g hn f i h0 h4 o hne;go_enter Tryz.func119,Tryz.ntmps119;go_wp2_with fail;refine(b.out _).mono ?_;rintro e w1 ⟨rfl,rfl⟩;go_wp2_with fail;refine(c.out _).mono ?_;rintro e w1 ⟨rfl,rfl⟩;go_wp2_with fail;refine(a.out _).mono ?_;rintro e w1 ⟨rfl,rfl⟩;go_wp2_with fail;refine(k.out _).mono ?_;rintro e w2 ⟨rfl,j⟩;replace j:=hid j;go_wp2_with fail
   go_ret2
   have q:s.toList=l:=by rw[Lib.toList_data];exact hl.out
   refine⟨V,(Lib.encodeRune V == s.toList),rfl,fun h=>?_,fun h=>?_,j.out⟩
   ·rw[q] at h;exact⟨d.out.2 ⟨trivial,eq_of_beq h⟩,hV.out.symm⟩
   ·rw[q] at h;intro hw;rw[(d.out.1 hw).2] at h;simp at h
 ·have t1:((n:Int) != (s.size:Int))=true:=bne_iff_ne.2 (by omega);have m:Hid (¬Dec.X5j l):=hid (fun h=>by have:=h.2.1;rw[g] at this;omega);clear c g hn f i hl h0 h4 o hne;go_enter Tryz.func119,Tryz.ntmps119;go_wp2_with fail;refine(b.out _).mono ?_;rintro e w1 ⟨rfl,rfl⟩;go_wp2_with fail
  go_ret2
  exact X4H m.out (Below.refl _ _)
theorem XaQ(w:World)(lo hi:Nat)(t:TypeId)(k:Nat)(hk:k<8):
 (w.alloc (.cells #[.int .i64 (lo:Int), .int .i64 (hi:Int), .int .i64 128, .int .i64 2048, .int .i64 65536, .int .i64 55295, .int .i64 57344, .int .i64 1114111] t)).cell? ⟨w.heap.size,k,none⟩=some (.int .i64 ((Dec.cands lo hi)[k]'hk)):=by
 rcases (by omega:k=0∨k=1∨k=2∨k=3∨k=4∨k=5∨k=6∨k=7) with rfl | rfl | rfl | rfl | rfl | rfl | rfl | rfl <;> simp [Dec.cands]
theorem X4c{l:List UInt8}{lo hi n k:Nat}{x:Int}(hk:k<8)(hx:(Dec.cands lo hi)[k]'hk=x)(h:((Dec.cands lo hi).take k).any (Dec.candB l lo hi n)=false)(hc:Dec.candB l lo hi n x=false):
 ((Dec.cands lo hi).take (k+1)).any (Dec.candB l lo hi n)=false:=by
 rw[List.take_succ_eq_append_getElem hk,List.any_append,h,hx];simp [hc]
theorem Xla{l:List UInt8}{lo hi n k:Nat}{x:Int}(hk:k<8)(hx:(Dec.cands lo hi)[k]'hk=x)(hc:Dec.candB l lo hi n x=true):(Dec.cands lo hi).any (Dec.candB l lo hi n)=true:=
 List.any_eq_true.2 ⟨x,by rw[←hx];exact List.getElem_mem hk,hc⟩
theorem Xgs{l:List UInt8}{lo hi n:Nat}{x:Int}(h: ¬(lo:Int)≤x):Dec.candB l lo hi n x=false:=by unfold Dec.candB;simp [h]
theorem Xgt{l:List UInt8}{lo hi n:Nat}{x:Int}(h: ¬x≤(hi:Int)):Dec.candB l lo hi n x=false:=by unfold Dec.candB;simp [h]
theorem Xgu{l:List UInt8}{lo hi n:Nat}{x:Int}(h:Dec.goodB x=false):Dec.candB l lo hi n x=false:=by unfold Dec.candB;simp [h]
theorem Xgv{l:List UInt8}{lo hi n:Nat}{x:Int}(h: ¬(Lib.encodeRune x).length=n):Dec.candB l lo hi n x=false:=by unfold Dec.candB;simp [h]
theorem Xgw{l:List UInt8}{lo hi n:Nat}{x:Int}(h: ¬(Lib.encodeRune x).take l.length=l):Dec.candB l lo hi n x=false:=by unfold Dec.candB;simp [h]
theorem Xgx{l:List UInt8}{lo hi n:Nat}{x:Int}(h1:(lo:Int)≤x)(h2:x≤(hi:Int))(h3:Dec.goodB x=true)(h4:(Lib.encodeRune x).length=n)(h5:(Lib.encodeRune x).take l.length=l):Dec.candB l lo hi n x=true:=by unfold Dec.candB;simp [h1,h2,h3,h4,h5]
def Xiz(l:List UInt8)(w:World)(e:Ending)(w':World):Prop:=e= .returned (.bool (Dec.begL l))∧Below w.heap.size w w'
theorem X5d(s:ByteArray)(l:List UInt8)(hl:s.data.toList=l)(hm:l.length≤1000)(w:World):
 Calls Tryz.prog 104 #[.string s] w (Xiz l w):=by
 have t:s.size=l.length:=by subst hl;rfl
 by_cases h0:l.length=0
 ·have hB:Hid (Dec.begL l=false):=hid (by rw[List.eq_nil_of_length_eq_zero h0];rfl);have hz:((s.size:Int) == 0)=true:=beq_iff_eq.2 (by omega);clear h0 t hl;go_enter Tryz.func104,Tryz.ntmps104;go_wp2_with fail;go_ret;exact⟨by rw[hB.out];rfl,Below.refl _ _⟩
 have hz:((s.size:Int) == 0)=false:=beq_eq_false_iff_ne.2 (by omega);by_cases h3:3<l.length
 ·have hB:Hid (Dec.begL l=false):=hid (Dec.beg4 l (by omega));have O:(3:Int)<(s.size:Int):=by omega
  clear h3 h0 t hl;go_enter Tryz.func104,Tryz.ntmps104;go_wp2_with fail;go_ret;exact⟨by rw[hB.out];rfl,Below.refl _ _⟩
 have O:decide ((3:Int)<(s.size:Int))=false:=by simp;omega
 have h:0<l.length:=by omega
 obtain⟨a3,e0⟩:=X6t hl 0 h;have C:=X9v h;obtain⟨x0,I⟩: ∃x0,l[0]=x0:=⟨_,rfl⟩;rw[I] at e0 C;have D:=x0.toNat_lt;have T:(x0.toNat:Int)<256:=by omega
 have S:=(X4q x0.toNat D).1;have c:=X6s x0.toNat D;have r:=X3D s l hl h (by omega) 0 (by decide);have m:=X3D s l hl h (by omega) 63 (by decide);unfold HRes at c;obtain⟨n,hn⟩: ∃n,(Dec.headN x0.toNat).1=n:=⟨_,rfl⟩;rw[hn] at c S;have G:(Dec.headN (Dec.nb l 0)).1=n:=by rw[C,hn]
 have V:s.size≤3:=by omega
 replace c:=hid c;obtain⟨lo,A⟩: ∃lo,Dec.valN l 0=lo:=⟨_,rfl⟩;obtain⟨hi,z⟩: ∃hi,Dec.valN l 63=hi:=⟨_,rfl⟩;rw[A] at r;rw[z] at m;have hR:Dec.begL l=(decide (l.length<n) && (Dec.cands lo hi).any (Dec.candB l lo hi n)):=by
  rw[←Dec.XA7];unfold Dec.begR;rw[G,A,z];have e1:decide (l.length≠0)=true:=decide_eq_true h0;have e2:decide (l.length≤3)=true:=decide_eq_true (by omega);rw[e1,e2];rfl
 replace r:=hid r;replace m:=hid m;clear A z G hn C I h0 h3;by_cases hlt:n≤l.length
 ·have t1:n≤s.size:=by omega
  have hB:Hid (Dec.begL l=false):=hid (by rw[hR,decide_eq_false (by omega)];rfl);clear hR hlt t hl h;go_enter Tryz.func104,Tryz.ntmps104;go_wp2_with fail;refine(c.out _).mono ?_;rintro e w1 ⟨rfl,rfl⟩;go_wp2_with fail;go_ret;exact⟨by rw[hB.out];rfl,Below.refl _ _⟩
 ·have t1:decide (n≤s.size)=false:=by simp;omega
  have F:l.length<n:=by omega
  rw[decide_eq_true F,Bool.true_and] at hR;replace hR:=hid hR;have a4:s.size<n:=by omega
  replace t:=hid t;replace hl:=hid hl;clear hlt F h;go_enter Tryz.func104,Tryz.ntmps104;go_wp2_with fail;refine(c.out _).mono ?_;rintro e w1 ⟨rfl,rfl⟩;go_wp2_with fail;refine(r.out _).mono ?_;rintro e w1 ⟨rfl,rfl⟩;go_wp2_with fail;refine(m.out _).mono ?_;rintro e w1 ⟨rfl,rfl⟩;go_wp2_with fail;have q:=hid (XaQ w lo hi 3);have d:=hid (X04 w (.cells #[.int .i64 (lo:Int), .int .i64 (hi:Int), .int .i64 128, .int .i64 2048, .int .i64 65536, .int .i64 55295, .int .i64 57344, .int .i64 1114111] 3))
  obtain⟨W,hW⟩: ∃W,w.alloc (.cells #[.int .i64 (lo:Int), .int .i64 (hi:Int), .int .i64 128, .int .i64 2048, .int .i64 65536, .int .i64 55295, .int .i64 57344, .int .i64 1114111] 3)=W:=⟨_,rfl⟩;have P:w.heap.size<W.heap.size:=by rw[←hW];simp
  rw[hW] at q d ⊢;clear hW;go_loopg [8,9] 8 (fun g i f wr=>∃k:Nat,k≤8∧g=8 - k∧i= .int .i64 k∧Below W.heap.size W wr∧Hid (((Dec.cands lo hi).take k).any (Dec.candB l lo hi n)=false))
  case atStart=>exact⟨0,by omega,rfl,rfl,Below.refl _ _,hid rfl⟩
  case round=>
   obtain⟨k,hk,rfl,rfl,a,p⟩:=hrel;by_cases hk8:k<8
   ·have U:(k:Int)<8:=by omega
    obtain⟨x,hx⟩: ∃x,(Dec.cands lo hi)[k]'hk8=x:=⟨_,rfl⟩;have R:wr.cell? ⟨w.heap.size,k,none⟩=some (.int .i64 x):=by rw[a.cell P,q.out k hk8,hx]
    replace hx:=hid hx;by_cases c1:(lo:Int)≤x
    case neg=>
     have j:=hid (X4c hk8 hx.out p.out (Xgs c1));have a0:decide ((lo:Int)≤x)=false:=by simp;omega
     go_wp2_with fail;go_roundg (8 - (k+1))
     case measure=>omega
     case rel=>exact⟨k+1,by omega,rfl,by go_num,a,j⟩
    by_cases c2:x≤(hi:Int)
    case neg=>
     have j:=hid (X4c hk8 hx.out p.out (Xgt c2));have a1:decide (x≤(hi:Int))=false:=by simp;omega
     go_wp2_with fail;go_roundg (8 - (k+1))
     case measure=>omega
     case rel=>exact⟨k+1,by omega,rfl,by go_num,a,j⟩
    have b:=X63 x wr;cases hG:Dec.goodB x with
    |
     false=>
     have j:=hid (X4c hk8 hx.out p.out (Xgu hG));rw[hG] at b;replace b:=hid b;clear hG;go_wp2_with fail;refine b.out.mono ?_;rintro e w1 ⟨rfl,rfl⟩;go_wp2_with fail;go_roundg (8 - (k+1))
     case measure=>omega
     case rel=>exact⟨k+1,by omega,rfl,by go_num,a,j⟩
    |
     true=>
     rw[hG] at b;replace b:=hid b;have o:=hid (X9y x hG wr);replace hG:=hid hG;obtain⟨B,hB⟩: ∃B:ByteArray,(⟨(Lib.encodeRune x).toArray⟩:ByteArray)=B:=⟨_,rfl⟩;have hF:Hid (B.data.toList=Lib.encodeRune x):=hid (by rw[←hB]);have u:B.size=(Lib.encodeRune x).length:=by rw[←hB];rfl
     replace u:=hid u;unfold XaS at o;rw[hB] at o;clear hB;go_wp2_with fail;refine b.out.mono ?_;rintro e w1 ⟨rfl,rfl⟩;go_wp2_with fail;refine o.out.mono ?_;rintro e w2 ⟨rfl,E⟩;replace a:=hid (a.trans (E.mono a.size));clear E;by_cases c4:B.size=n
     case neg=>
      have j:=hid (X4c hk8 hx.out p.out (Xgv (by rw[←u.out];exact c4)));have L:=X5i c4;go_wp2_with fail;go_roundg (8 - (k+1))
      case measure=>omega
      case rel=>exact⟨k+1,by omega,rfl,by go_num,a.out,j⟩
     have L:=X4u c4;have a2:s.size≤B.size:=by omega
     have M:=hid c4;clear c4;have v:s.toList=l:=by rw[Lib.toList_data];exact hl.out
     have y:(B.extract 0 s.size).toList=(Lib.encodeRune x).take l.length:=by rw[Lib.toList_data,Lib.extract_data,←hF.out,←t.out];simp
     by_cases c5:(Lib.encodeRune x).take l.length=l
     ·have K:=hid (Xla hk8 hx.out (Xgx (l:=l) (lo:=lo) (hi:=hi) (n:=n) c1 c2 hG.out (by rw[←u.out];exact M.out) c5));have N:((B.extract 0 s.size).toList == s.toList)=true:=by rw[v,y,c5];exact beq_self_eq_true _
      replace c5:=hid c5;clear v y;go_wp2_with fail;go_ret;exact⟨by rw[hR.out,K.out];rfl,d.out.trans (a.out.mono d.out.size)⟩
     ·have j:=hid (X4c hk8 hx.out p.out (Xgw (l:=l) (lo:=lo) (hi:=hi) (n:=n) c5));have N:((B.extract 0 s.size).toList == s.toList)=false:=by rw[v,y];exact beq_eq_false_iff_ne.2 c5
      replace c5:=hid c5;clear v y;go_wp2_with fail;go_roundg (8 - (k+1))
      case measure=>omega
      case rel=>exact⟨k+1,by omega,rfl,by go_num,a.out,j⟩
   ·obtain rfl:k=8:=by omega
    have H:Hid (Dec.begL l=false):=hid (by rw[hR.out];exact p.out);clear p;go_wp2_with fail;go_ret;exact⟨by rw[H.out];rfl,d.out.trans (a.mono d.out.size)⟩
theorem X2o(l:List UInt8):Dec.saneL l=(decide (l.length=0) || Dec.begL l):=rfl
def X5e(q:Bool)(w:World)(e:Ending)(w':World):Prop:=e= .returned (.bool q)∧Below w.heap.size w w'
theorem X5f(s:ByteArray)(l:List UInt8)(hl:s.data.toList=l)(hm:l.length≤1000)(w:World):
 Calls Tryz.prog 79 #[.agg #[.string s]] w (X5e (Dec.saneL l) w):=by
 have b:s.size=l.length:=by subst hl;rfl
 by_cases h0:s.size=0
 ·have hs:=X1z h0;have a:=hid (show Dec.saneL l=true by rw[X2o,decide_eq_true (by omega)];rfl);clear h0 b;go_enter Tryz.func79,Tryz.ntmps79;go_wp2_with fail;go_ret;exact⟨X0p a.out.symm,X04 _ _⟩
 ·have hs:=X0X h0;have hb:=hid (X5d s l hl hm);have a:=hid (show Dec.saneL l=Dec.begL l by rw[X2o,decide_eq_false (by omega)];rfl);clear h0 b hl hm;go_enter Tryz.func79,Tryz.ntmps79;go_wp2_with fail;refine(hb.out _).mono ?_;rintro e w1 ⟨rfl,c⟩;go_wp2_with fail;go_ret;exact⟨X0p a.out.symm,X1v c⟩
def X6u(l:List Int)(w:World)(e:Ending)(w':World):Prop:=∃v,e= .returned v∧Own w.heap.size v l w'∧Below w.heap.size w w'
theorem X9w(s:ByteArray)(l:List UInt8)(hl:s.data.toList=l)(hm:l.length≤1000)(w:World):
 Calls Tryz.prog 70 #[.agg #[.string s]] w (X6u (Dec.endLL l) w):=by
 have d:s.size=l.length:=by subst hl;rfl
 have b:=X5f s l hl hm;unfold X5e at b;cases hS:Dec.saneL l with
 |
  false=>
  rw[hS] at b;replace b:=hid b;have hE:Hid (Dec.endLL l= []):=hid (by
   unfold Dec.endLL;rw[if_neg];intro h;rw[Dec.X7v h] at hS;cases hS)
  clear hS d;go_enter Tryz.func70,Tryz.ntmps70;go_wp2_with fail;refine(b.out _).mono ?_;rintro e w1 ⟨rfl,a⟩;go_wp2_with fail;go_ret;exact⟨_,rfl,by rw[hE.out];exact X27 _ _,X1v a⟩
 |
  true=>
  rw[hS] at b;replace b:=hid b;by_cases h0:s.size=0
  ·have hs:=X1z h0;have hE:Hid (Dec.endLL l= []):=hid (by rw[List.eq_nil_of_length_eq_zero (show l.length=0 by omega)];rfl);clear hS d h0;go_enter Tryz.func70,Tryz.ntmps70;go_wp2_with fail;refine(b.out _).mono ?_;rintro e w1 ⟨rfl,a⟩;obtain⟨z0,q0,r0⟩:=X0n (X0R w (.string s) _) a;replace a:=hid a;go_wp2_with fail;go_ret;exact⟨_,rfl,by rw[hE.out];exact X27 _ _,X1v a.out⟩
  ·have hs:=X0X h0;have hE:Hid (Dec.endLL l= [65533]):=hid (by
    have h1:Dec.begL l=true:=by
     rw[X2o,decide_eq_false (by omega)] at hS;exact hS
    unfold Dec.endLL;rw[if_pos h1])
   clear hS d h0;go_enter Tryz.func70,Tryz.ntmps70;go_wp2_with fail;refine(b.out _).mono ?_;rintro e w1 ⟨rfl,a⟩;obtain⟨z0,q0,r0⟩:=X0n (X0R w (.string s) _) a;replace a:=hid a;go_wp2_with fail;go_ret;have c:=X1v a.out;exact⟨_,rfl,by rw[hE.out];exact X6f _ _ _ c.size,c.alloc c.size _⟩
def X4E(t:List UInt8)(m:List Int)(w:World)(e:Ending)(w':World):Prop:=
 ∃ (T:ByteArray) (v:Value),e= .returned (.tuple #[.agg #[.string T],v])∧T.data.toList=t∧Own w.heap.size v m w'∧Below w.heap.size w w'
def Xlb(w:World)(p:ByteArray)(wx:World):Prop:=Box wx w.heap.size (.string p)∧Box wx (w.heap.size+1) (.string ⟨#[]⟩)∧Below w.heap.size w wx
theorem X8G{B:Nat}{v:Value}{l:List Int}{w:World}(h:Own B v l w):Src w v (l.map (Value.int .i64)):=by
 rcases X44 h with⟨rfl,rfl⟩ | ⟨g,cap,rfl,_,_,hc⟩
 ·exact .inl ⟨rfl,rfl⟩
 ·exact .inr ⟨⟨g,0,none⟩,cap,by rw[List.length_map],hc⟩
theorem X61{w w1:World}{k:Nat}{v:Value}{row:Option Nat}(h:Box w k v)(hg:w.grownBy w1 row)(hne:some k≠row):Box w1 k v:=by
 obtain⟨h0,h1,h2⟩:=h;have hb:=hg.block k h0 hne;have:=hg.size;exact⟨Nat.lt_of_lt_of_le h0 this,by rw[World.cell?_of_block (w:=w) hb];exact h1,by rw[World.frozen?_of_block (w:=w) hb];exact h2⟩
theorem X62(s:ByteArray)(l:List UInt8)(hl:s.data.toList=l)(hm:l.length≤1000)(c:UInt8)(w:World)
 (t:l≠ []→Dec.saneL l=true→∀w,Calls Tryz.prog 92 #[.agg #[.string ⟨#[]⟩], .int .u8 c.toNat] w (X4E (Dec.feedL [] c).1 (Dec.feedL [] c).2 w)):
 Calls Tryz.prog 92 #[.agg #[.string s], .int .u8 c.toNat] w (X4E (Dec.feedL l c).1 (Dec.feedL l c).2 w):=by
 have a0:=X5f s l hl hm;unfold X5e at a0;have ab:=X2l c;obtain⟨p,pl,hp,W,B,L,ah⟩: ∃ (p:ByteArray) (pl:List UInt8),p.data.toList=pl∧((Dec.saneL l=true∧p=s∧pl=l)∨(Dec.saneL l=false∧p=⟨#[]⟩∧pl= []))∧Dec.saneL pl=true∧Dec.feedL l c=Dec.feedL pl c∧pl.length≤3:=by
  cases hS:Dec.saneL l with
  |
   true=>
   refine⟨s,l,hl, .inl ⟨rfl,rfl,rfl⟩,hS,rfl,?_⟩;rw[X2o] at hS;rcases Bool.or_eq_true_iff.1 hS with h | h
   ·have:=of_decide_eq_true h;omega
   ·exact(Dec.Xh5 h).2
  | false=>exact⟨⟨#[]⟩,[],rfl, .inr ⟨rfl,rfl,rfl⟩,rfl,Dec.Xdx hS,by simp⟩
 rw[L];clear L;replace hl:=hid hl;replace hp:=hid hp;replace B:=hid B;replace t:=hid t;go_enter Tryz.func92,Tryz.ntmps92;go_wp2_with fail;refine(a0 _).mono ?_;rintro e w1 ⟨rfl,F⟩;clear a0;have q:=X0n (X0F (X0R w (.string s) 23) (.cells #[.string { data:= #[] }] 23)) F;have d:=X0n (X0R (w.alloc (Obj.cells #[Value.string s] 23)) (.string { data:= #[] }) 23) F;simp only[World.size_alloc] at d;have o:=X2x F;clear F;replace d:=hid d;replace o:=hid o;have x:=hid q;obtain⟨z0,q0,r0⟩:=q;have H:Hid True:=hid trivial;go_upto_if 14 with(fail)
 go_cut [] (fun wx=>Xlb w p wx)
 case first=>
  rcases W with⟨hS,rfl,rfl⟩ | ⟨hS,rfl,rfl⟩
  ·rw[hS];replace hS:=hid hS;go_wp2_with fail;go_meet;exact⟨x.out,d.out,o.out⟩
  ·rw[hS];replace hS:=hid hS;go_wp2_with fail;go_meet;exact⟨X3O x.out,X45 d.out _ _ (by simp),o.out.setCell (Nat.le_refl _) _⟩
 case rest=>
  clear d o x z0 q0 r0 H;obtain⟨a2,D,M⟩:=hcut;have I:=hid a2;obtain⟨z0,q0,r0⟩:=a2;replace D:=hid D;replace M:=hid M;obtain⟨b,hb⟩: ∃b,p++(⟨#[c]⟩:ByteArray)=b:=⟨_,rfl⟩;have u:b.data.toList=pl++ [c]:=by rw[←hb,←hp.out];simp
  have af:p.size≤3:=by
   have h:p.size=pl.length:=by rw[←hp.out];rfl
   omega
  go_wp2_with fail;refine(XcV b _ u (by simp) (by simp;omega) _).mono ?_;rintro e w2 ⟨v,ok,rfl,C,y,G⟩;have a:=hid (X1j M.out G);have q:=hid (X0n (X0F I.out _) G);have d:=hid (X0n (X0F D.out _) G);have ai:w.heap.size+2≤w2.heap.size:=by have:=d.out.1;omega
  clear G I D z0 q0 r0 ab;cases ok with
  |
   true=>
   obtain⟨hw,rfl⟩:=C rfl;have hF:=hid (Dec.Xtn B.out hw);clear C y hw;obtain⟨z1,q1,r1⟩:=d.out;obtain⟨V,hV⟩: ∃V:Int,(Dec.valN (pl++ [c]) 0:Int)=V:=⟨_,rfl⟩;rw[hV] at hF ⊢;clear hV;go_wp2_with fail;refine bodyPost_ret (v:= .tuple #[.agg #[.string ⟨#[]⟩],_]) (by simp [results,Tryz.results92,go_sem,q1,z1];rfl) rfl ⟨⟨#[]⟩,_,rfl,by rw[hF.out],?_,?_⟩
   ·rw[hF.out];exact X1W _ _ _ _ (by simp) (by simp;omega)
   ·exact(a.out.setCell (by simp) _).alloc (by simp;omega) _
  |
   false=>
   replace y:=hid (y rfl);clear C;have k:=X5d b _ u (by simp;omega);unfold Xiz at k;cases hB:Dec.begL (pl++ [c]) with
   |
    true=>
    have hF:=hid (Dec.X9R B.out hB);rw[hB] at k;replace k:=hid k;replace u:=hid u;clear hB;go_wp2_with fail;refine(k.out _).mono ?_;rintro e w3 ⟨rfl,f⟩;have g:=hid (a.out.trans (f.mono a.out.size));obtain⟨z1,q1,r1⟩:=X0n d.out f;clear f;go_wp2_with fail;refine bodyPost_ret (v:= .tuple #[.agg #[.string b], .slice none 0 0]) (by simp [results,Tryz.results92,go_sem,q1,z1]) rfl ⟨b,_,rfl,by rw[hF.out,u.out],?_,?_⟩
    ·rw[hF.out];exact X27 _ _
    ·exact g.out.setCell (by simp) _
   |
    false=>
    rw[hB] at k;replace k:=hid k;replace hB:=hid hB;clear u;by_cases h0:p.size=0
    ·have hs:=X1z h0;have j:pl= []:=by rw[←hp.out];exact List.eq_nil_of_length_eq_zero h0
     have hF:Hid (Dec.feedL pl c=([],[65533])):=hid (by
      have h1:=y.out;have h2:=hB.out;rw[j] at h1 h2 ⊢;exact Dec.Xto h1 h2)
     clear h0 j;go_wp2_with fail;refine(k.out _).mono ?_;rintro e w3 ⟨rfl,f⟩;have g:=hid (a.out.trans (f.mono a.out.size));obtain⟨z0,q0,r0⟩:=X0n q.out f;obtain⟨z1,q1,r1⟩:=X0n d.out f;clear f;go_wp2_with fail;refine bodyPost_ret (v:= .tuple #[.agg #[.string ⟨#[]⟩],_]) (by simp [results,Tryz.results92,go_sem,q1,z1];rfl) rfl ⟨⟨#[]⟩,_,rfl,by rw[hF.out],?_,?_⟩
     ·rw[hF.out];exact X1W _ _ _ _ (by simp) (by simp;omega)
     ·exact(g.out.setCell (by simp) _).alloc (by simp;omega) _
    ·have hs:=X0X h0;have j:pl≠ []:=by intro e;rw[←hp.out] at e;exact h0 (by show p.data.toList.length=0;rw[e];rfl)
     have hF:=hid (Dec.Xtp B.out j y.out hB.out);obtain⟨a3,rfl,rfl⟩:Dec.saneL l=true∧p=s∧pl=l:=by
      rcases W with h | h
      ·exact h
      ·exact absurd h.2.2 j
     have n:=t.out j a3;obtain⟨t0,a5⟩: ∃t0,(Dec.feedL [] c).1=t0:=⟨_,rfl⟩;obtain⟨m0,P⟩: ∃m0,(Dec.feedL [] c).2=m0:=⟨_,rfl⟩;have ag:m0.length≤1:=by
      rw[←P,Dec.X6a]
      split <;> simp
     rw[a5,P] at n hF;replace n:=hid n;clear t h0 j a3 W a5 P;go_wp2_with fail;refine(k.out _).mono ?_;rintro e w3 ⟨rfl,f⟩;have g:=hid (a.out.trans (f.mono a.out.size));have q:=X0n q.out f;have d:=hid (X0n d.out f);obtain⟨z0,q0,r0⟩:=q;clear f;go_wp2_with fail;refine(n.out _).mono ?_;rintro e w4 ⟨T,v4,rfl,N,r,O⟩;have m:=hid (g.out.trans (O.mono g.out.size));have E:=hid (X0n d.out O);replace N:=hid N;replace r:=hid r;clear O;obtain⟨i0,hi,ad,ae,a6⟩:=info_parts X2H
     have K:=hid (X1W (w.heap.size+2) 65533 (w4.alloc (Obj.cells #[Value.string T] 23)) (w4.heap.size+1) (by simp) (by have:=m.out.size;have:=E.out.1;simp;omega));have a4:=hid (X8G (X1N (X1N r.out (Obj.cells #[Value.string T] 23)) (Obj.cells #[Value.int IntKind.i64 65533] 3)));have a8:=hid (X0F (X0F E.out (Obj.cells #[Value.string T] 23)) (Obj.cells #[Value.int IntKind.i64 65533] 3));have aa:=hid (X0F (X0R w4 (Value.string T) 23) (Obj.cells #[Value.int IntKind.i64 65533] 3))
     have a1:=hid ((m.out.alloc m.out.size (Obj.cells #[Value.string T] 23)).alloc (by have:=m.out.size;simp;omega) (Obj.cells #[Value.int IntKind.i64 65533] 3));have R:1+(m0.map (Value.int .i64)).length≤maxLen:=by rw[List.length_map];unfold maxLen;omega
     have S:(1+(m0.map (Value.int .i64)).length) *8≤140737488355328:=by rw[List.length_map];omega
     have U:w.heap.size+2≤((w4.alloc (Obj.cells #[Value.string T] 23)).alloc (Obj.cells #[Value.int IntKind.i64 65533] 3)).heap.size:=by have:=E.out.1;simp;omega
     have ac:w.heap.size+1≠w4.heap.size+1:=by have:=E.out.1;omega
     replace R:=hid R;replace S:=hid S;replace U:=hid U;go_upto_region 14 with(at_builtin;refine X0c rfl _ _ 24 rfl (w.heap.size+2) 3 i0 (.int .i64 0) 8 Tryz.underlying24 hi ad ae a6 rfl _ _ _ rfl K.out _ _ rfl a4.out (X12 m0) R.out S.out U.out ?_;intro v5 w5 z i);have a9:=X61 a8.out i (X8p ac);obtain⟨z7,q7,r7⟩:=X61 aa.out i (X8p (by omega));have a7:=hid (X0k a1.out i a1.out.size K.out (by omega));have A:=hid (X17 (l:=65533::m0) z (by simp;omega) (by simp));clear z i;obtain⟨z6,q6,r6⟩:=a9;go_wp2_with fail
     refine bodyPost_ret (v:= .tuple #[.agg #[.string T],v5]) (by simp [results,Tryz.results92,go_sem,q6,z6]) rfl ⟨T,v5,rfl,by rw[hF.out];exact N.out,?_,?_⟩
     ·rw[hF.out];exact X2y (X28 A.out _ _ (X3y A.out (by simp))) (by omega)
     ·exact a7.out.setCell (by simp) _
theorem XaR(c:UInt8)(w:World):Calls Tryz.prog 92 #[.agg #[.string ⟨#[]⟩], .int .u8 c.toNat] w (X4E (Dec.feedL [] c).1 (Dec.feedL [] c).2 w):=
 X62 ⟨#[]⟩ [] rfl (by simp) c w (fun h=>absurd rfl h)
theorem X7h(s:ByteArray)(l:List UInt8)(hl:s.data.toList=l)(hm:l.length≤1000)(c:UInt8)(w:World):Calls Tryz.prog 92 #[.agg #[.string s], .int .u8 c.toNat] w (X4E (Dec.feedL l c).1 (Dec.feedL l c).2 w):=
 X62 s l hl hm c w (fun _ _ w=>XaR c w)
end Go.Proofs.YtkofnpkopbnocaaGreatDoor.Tq
