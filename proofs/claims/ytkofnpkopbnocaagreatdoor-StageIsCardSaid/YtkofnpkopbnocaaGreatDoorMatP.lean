import Derived.Test.YtkofnpkopbnocaaGreatDoorRows
import Derived.Lib.DecodeNEq
import Derived.Shelf.Unicode.DecodeSlow
import Derived.Lib.RuneBytes
import Derived.Test.YtkofnpkopbnocaaGreatDoorMthP
import Derived.Test.YtkofnpkopbnocaaGreatDoorV1
set_option linter.unusedSimpArgs false
set_option linter.unusedVariables false
namespace Go.Proofs.YtkofnpkopbnocaaGreatDoor
namespace Dec
def goodB(r:Int):Bool:=decide (0≤r) && decide (r≤1114111) && (decide (r<55296) || decide (57343<r))
end Dec
namespace Dec
open Go.Lib
def fullN(n b0 b1 b2:Nat):Bool:=
 decide (n≠0) && (decide (firstT b0 % 8≤n) || (decide (1<n) && decide (b1<accLo (firstT b0 / 16)∨accHi (firstT b0 / 16)<b1)) || (decide (2<n) && decide (b2<128∨191<b2)))
def fullB(s:ByteArray):Bool:=fullN s.size (s.get! 0).toNat (s.get! 1).toNat (s.get! 2).toNat
def begB(s:ByteArray):Bool:=decide (s.size≠0) && !fullB s
def fix(r:Int):Int:=if goodB r then r else 65533
def saneB(s:ByteArray):Bool:=decide (s.size=0) || begB s
end Dec
namespace Dec
open Go.Lib
def feed1(s:ByteArray)(c:UInt8):ByteArray × List Int:=
 if begB (s++⟨#[c]⟩) then (s++⟨#[c]⟩,[])
 else if (decodeGo (s++⟨#[c]⟩)).2=(s++⟨#[c]⟩).size then (⟨#[]⟩,[((decodeGo (s++⟨#[c]⟩)).1:Int)])
 else if begB (⟨#[]⟩++⟨#[c]⟩) then (⟨#[]⟩++⟨#[c]⟩,[65533])
 else (⟨#[]⟩,[65533,((decodeGo (⟨#[]⟩++⟨#[c]⟩)).1:Int)])
def feed(s:ByteArray)(c:UInt8):ByteArray × List Int:=if saneB s then feed1 s c else feed1 ⟨#[]⟩ c
theorem Xh0(c:UInt8):((⟨#[]⟩:ByteArray)++⟨#[c]⟩).size=1:=by rw[ByteArray.size_append];rfl
theorem Xjc(c:UInt8):(decodeGo (⟨#[]⟩++⟨#[c]⟩)).2=1:=by
 unfold decodeGo;rw[if_neg (by rw[Xh0];decide),Lib.decode_at,Xh0];unfold decodeN
 repeat' split
 all_goals first | rfl | omega
theorem XBk(c:UInt8):feed1 ⟨#[]⟩ c=if begB (⟨#[]⟩++⟨#[c]⟩) then (⟨#[]⟩++⟨#[c]⟩,[]) else (⟨#[]⟩,[((decodeGo (⟨#[]⟩++⟨#[c]⟩)).1:Int)]):=by
 unfold feed1;rw[Xjc,Xh0];rw[if_pos (rfl:(1:Nat)=1)]
theorem XvM(b:ByteArray):((decodeGo b).1:Int)≤1114111:=by
 unfold decodeGo
 split
 ·simp
 ·rw[Lib.decode_at];have h0:=(b.get! 0).toNat_lt;unfold decodeN
  repeat' split
  all_goals first | (simp;done) | (simp;omega) | (simp_all;omega)
theorem XBl:saneB ⟨#[]⟩=true:=rfl
def run(st:ByteArray)(bs:List UInt8):ByteArray × List Int:=bs.foldl (fun p c=>((feed p.1 c).1,p.2++(feed p.1 c).2)) (st,[])
theorem X81(st:ByteArray)(bs:List UInt8)(c:UInt8):run st (bs++ [c])=((feed (run st bs).1 c).1,(run st bs).2++(feed (run st bs).1 c).2):=by
 unfold run;rw[List.foldl_append];rfl
def endL(s:ByteArray):List Int:=if begB s then [65533] else []
def allL(bs:List UInt8):List Int:=(run ⟨#[]⟩ bs).2++endL (run ⟨#[]⟩ bs).1
def textL(l:List Int):List UInt8:=l.flatMap fun r=>Lib.encodeRune (fix r)
theorem Xpk(l:List Int)(r:Int):textL (l++ [r])=textL l++Lib.encodeRune (fix r):=by simp [textL]
theorem X8s(r:Int):(Lib.encodeRune r).length≤4:=by
 unfold Lib.encodeRune Lib.encodeRuneZ
 repeat' split
 all_goals simp
theorem Xjf(l:List Int):(textL l).length≤4 *l.length:=by
 induction l with
 | nil=>simp [textL]
 |
  cons r l ih=>
  have h:=X8s (fix r);have e:textL (r::l)=Lib.encodeRune (fix r)++textL l:=by simp [textL]
  rw[e];simp;omega
theorem XCb(r:Int): -2147483648≤fix r∧fix r≤2147483647:=by
 unfold fix
 split
 ·rename_i h;unfold goodB at h
  grind
 ·omega
end Dec
namespace Dec
open Go.Lib
theorem cat(x y:Array UInt8):((⟨x⟩:ByteArray)++⟨y⟩)=⟨x++y⟩:=by
 apply ByteArray.ext;simp
theorem XyH(x:Array UInt8)(i:Nat):(⟨x⟩:ByteArray).get! i=x.toList.getD i 0:=by
 show x[i]! =_
 rw[getElem!_def];cases h:x[i]? with
 | some v=>simp [h]
 | none=>simp [h];rfl
def nb(l:List UInt8)(i:Nat):Nat:=(l.getD i 0).toNat
def begL(l:List UInt8):Bool:=decide (l.length≠0) && !fullN l.length (nb l 0) (nb l 1) (nb l 2)
theorem Xb2(l:List UInt8):begB ⟨l.toArray⟩=begL l:=by
 unfold begB begL fullB;simp only[XyH];rfl
def decL(l:List UInt8):Nat × Nat:=if l.length=0 then (65533,0) else decodeN l.length (nb l 0) (nb l 1) (nb l 2) (nb l 3)
theorem Xdw(l:List UInt8):decodeGo ⟨l.toArray⟩=decL l:=by
 unfold decodeGo decL;rw[Lib.decode_at];simp only[XyH];rfl
def X4M(s:List UInt8)(c:UInt8):List UInt8 × List Int:=
 if begL (s++ [c]) then (s++ [c],[])
 else if (decL (s++ [c])).2=s.length+1 then ([],[((decL (s++ [c])).1:Int)])
 else if begL [c] then ([c],[65533])
 else ([],[65533,((decL [c]).1:Int)])
theorem Xne(s:List UInt8)(c:UInt8):feed1 ⟨s.toArray⟩ c=(⟨(X4M s c).1.toArray⟩,(X4M s c).2):=by
 unfold feed1 X4M;have e1:((⟨s.toArray⟩:ByteArray)++⟨#[c]⟩)=⟨(s++ [c]).toArray⟩:=by rw[cat];simp
 have e2:((⟨#[]⟩:ByteArray)++⟨#[c]⟩)=⟨[c].toArray⟩:=by rw[cat];rfl
 have e3:(⟨(s++ [c]).toArray⟩:ByteArray).size=s.length+1:=by
  show (s++ [c]).toArray.size=_
  simp
 rw[e1,e2,Xb2,Xb2,Xdw,Xdw,e3]
 repeat' split
 all_goals rfl
def saneL(s:List UInt8):Bool:=decide (s.length=0) || begL s
theorem X5C(s:List UInt8):saneB ⟨s.toArray⟩=saneL s:=by
 unfold saneB saneL;rw[Xb2];rfl
def feedL(s:List UInt8)(c:UInt8):List UInt8 × List Int:=if saneL s then X4M s c else X4M [] c
theorem Xh1(s:List UInt8)(c:UInt8):feed ⟨s.toArray⟩ c=(⟨(feedL s c).1.toArray⟩,(feedL s c).2):=by
 unfold feed feedL;rw[X5C]
 split
 ·exact Xne s c
 ·exact Xne [] c
def runL(s:List UInt8):List UInt8→List UInt8 × List Int
 | []=>(s,[])
 | c::r=>((runL (feedL s c).1 r).1,(feedL s c).2++(runL (feedL s c).1 r).2)
theorem X6B(s:List UInt8)(a b:List UInt8):runL s (a++b)=((runL (runL s a).1 b).1,(runL s a).2++(runL (runL s a).1 b).2):=by
 induction a generalizing s with
 | nil=>simp [runL]
 |
  cons c a ih=>
  rw[List.cons_append];simp only[runL];rw[ih];simp [List.append_assoc]
theorem XyI(bs:List UInt8):run ⟨#[]⟩ bs=(⟨(runL [] bs).1.toArray⟩,(runL [] bs).2):=by
 have a: ∀n,∀bs:List UInt8,bs.length=n→run ⟨#[]⟩ bs=(⟨(runL [] bs).1.toArray⟩,(runL [] bs).2):=by
  intro n
  induction n with
  |
   zero=>
   intro bs h;obtain rfl:=List.eq_nil_of_length_eq_zero h;rfl
  |
   succ n ih=>
   intro bs h;rcases List.eq_nil_or_concat bs with rfl | ⟨b,c,rfl⟩
   ·simp at h
   ·rw[List.concat_eq_append] at h ⊢;rw[X81,ih b (by simpa using h),Xh1,X6B];simp [runL]
 exact a _ bs rfl
def endLL(s:List UInt8):List Int:=if begL s then [65533] else []
def allLL(bs:List UInt8):List Int:=(runL [] bs).2++endLL (runL [] bs).1
theorem X6C(bs:List UInt8):allL bs=allLL bs:=by
 unfold allL allLL endL endLL;rw[XyI,Xb2]
theorem Xx6(x:Int)(h0:0≤x)(h1:x<256):((x.toNat.toUInt8).toNat:Int)=x:=by
 have h2:x.toNat<256:=by omega
 have h3:(x.toNat.toUInt8).toNat=x.toNat:=by
  show (UInt8.ofNat x.toNat).toNat=x.toNat
  rw[UInt8.toNat_ofNat'];omega
 omega
theorem X2U(x:Int)(h0:0≤x)(h1:x<256):(x.toNat.toUInt8).toNat=x.toNat:=by
 have:=Xx6 x h0 h1;omega
end Dec
namespace Dec
open Go.Lib
theorem XCc(x:Nat):firstT x % 8≤1↔¬(194≤x∧x≤244):=by
 unfold firstT
 repeat' split
 all_goals omega
theorem XCd(x:Nat):firstT x % 8≤2↔¬(224≤x∧x≤244):=by
 unfold firstT
 repeat' split
 all_goals omega
theorem XCe(x:Nat):firstT x % 8≤3↔¬(240≤x∧x≤244):=by
 unfold firstT
 repeat' split
 all_goals omega
theorem XCf(x y:Nat)(h:224≤x∧x≤244):(y<accLo (firstT x / 16)∨accHi (firstT x / 16)<y)↔
 ¬((x=224∧160≤y∧y≤191)∨(225≤x∧x≤239∧x≠237∧128≤y∧y≤191)∨(x=237∧128≤y∧y≤159)∨(x=240∧144≤y∧y≤191)∨(241≤x∧x≤243∧128≤y∧y≤191)∨(x=244∧128≤y∧y≤143)):=by
 rcases (by omega:x=224∨(225≤x∧x<237)∨x=237∨(238≤x∧x<240)∨x=240∨(241≤x∧x<244)∨x=244) with h1 | h1 | h1 | h1 | h1 | h1 | h1
 ·rw[firstT_E0 h1,show accLo (19 / 16)=160 from rfl,show accHi (19 / 16)=191 from rfl];omega
 ·rw[firstT_E1 (.inl h1),show accLo (3 / 16)=128 from rfl,show accHi (3 / 16)=191 from rfl];omega
 ·rw[firstT_ED h1,show accLo (35 / 16)=128 from rfl,show accHi (35 / 16)=159 from rfl];omega
 ·rw[firstT_E1 (.inr h1),show accLo (3 / 16)=128 from rfl,show accHi (3 / 16)=191 from rfl];omega
 ·rw[firstT_F0 h1,show accLo (52 / 16)=144 from rfl,show accHi (52 / 16)=191 from rfl];omega
 ·rw[firstT_F1 h1,show accLo (4 / 16)=128 from rfl,show accHi (4 / 16)=191 from rfl];omega
 ·rw[firstT_F4 h1,show accLo (68 / 16)=128 from rfl,show accHi (68 / 16)=143 from rfl];omega
def Fits(x y:Nat):Prop:=(x=224∧160≤y∧y≤191)∨(225≤x∧x≤239∧x≠237∧128≤y∧y≤191)∨(x=237∧128≤y∧y≤159)∨(x=240∧144≤y∧y≤191)∨(241≤x∧x≤243∧128≤y∧y≤191)∨(x=244∧128≤y∧y≤143)
theorem beg1(a:UInt8):begL [a]=true↔194≤a.toNat∧a.toNat≤244:=by
 have h:=XCc a.toNat
 show (decide (1≠0) && !fullN 1 a.toNat 0 0)=true↔_
 unfold fullN;simp;omega
theorem Fits.lo{x y:Nat}(h:Fits x y):224≤x∧x≤244:=by
 unfold Fits at h;omega
theorem Xte(x y:Nat)(h:224≤x∧x≤244):(y<accLo (firstT x / 16)∨accHi (firstT x / 16)<y)↔¬Fits x y:=XCf x y h
theorem beg2(a b:UInt8):begL [a,b]=true↔Fits a.toNat b.toNat:=by
 have h:=XCd a.toNat
 show (decide (2≠0) && !fullN 2 a.toNat b.toNat 0)=true↔_
 unfold fullN;by_cases hx:224≤a.toNat∧a.toNat≤244
 ·have h2:=Xte a.toNat b.toNat hx;have h3: ¬firstT a.toNat % 8≤2:=fun h'=>(h.1 h') hx;by_cases hy:Fits a.toNat b.toNat
  ·have h4: ¬(b.toNat<accLo (firstT a.toNat / 16)∨accHi (firstT a.toNat / 16)<b.toNat):=fun h'=>(h2.1 h') hy;simp [h3,h4,hy]
  ·have h4:=h2.2 hy;simp [h4,hy]
 ·have h3:firstT a.toNat % 8≤2:=h.2 hx;have h4: ¬Fits a.toNat b.toNat:=fun h'=>hx h'.lo;simp [h3,h4]
theorem beg3(a b c:UInt8):begL [a,b,c]=true↔Fits a.toNat b.toNat∧240≤a.toNat∧128≤c.toNat∧c.toNat≤191:=by
 have h:=XCe a.toNat
 show (decide (3≠0) && !fullN 3 a.toNat b.toNat c.toNat)=true↔_
 unfold fullN;by_cases hx:240≤a.toNat∧a.toNat≤244
 ·have h2:=Xte a.toNat b.toNat ⟨by omega,hx.2⟩;have h3: ¬firstT a.toNat % 8≤3:=fun h'=>(h.1 h') hx;by_cases hy:Fits a.toNat b.toNat
  ·have h4: ¬(b.toNat<accLo (firstT a.toNat / 16)∨accHi (firstT a.toNat / 16)<b.toNat):=fun h'=>(h2.1 h') hy;by_cases hz:c.toNat<128∨191<c.toNat
   ·have h5: ¬(128≤c.toNat∧c.toNat≤191):=by omega
    simp [hz,h5]
   ·have h5:128≤c.toNat∧c.toNat≤191:=by omega
    simp [h3,h4,hy,hz,h5,hx.1]
  ·have h4:=h2.2 hy;simp [h4,hy]
 ·have h3:firstT a.toNat % 8≤3:=h.2 hx;have h4: ¬(Fits a.toNat b.toNat∧240≤a.toNat∧128≤c.toNat∧c.toNat≤191):=fun h'=>hx ⟨h'.2.1,h'.1.lo.2⟩;simp only[h3,h4,iff_false];simp
theorem beg4(l:List UInt8)(h:4≤l.length):begL l=false:=by
 unfold begL;have h1:firstT (nb l 0) % 8≤l.length:=by
  rcases Lib.firstT_cases (nb l 0) with hX | hX | hX | hX | hX | hX | hX | hX | hX <;> rw[hX] <;> omega
 have h2:l.length≠0:=by omega
 have h3:fullN l.length (nb l 0) (nb l 1) (nb l 2)=true:=by
  unfold fullN;simp only[h1,h2,decide_true,ne_eq,not_false_eq_true,Bool.true_and,Bool.true_or]
 simp [h3]
theorem dec1(a:UInt8):decL [a]=decodeN 1 a.toNat 0 0 0:=rfl
theorem dec2(a b:UInt8):decL [a,b]=decodeN 2 a.toNat b.toNat 0 0:=rfl
theorem dec3(a b c:UInt8):decL [a,b,c]=decodeN 3 a.toNat b.toNat c.toNat 0:=rfl
theorem dec4(a b c d:UInt8):decL [a,b,c,d]=decodeN 4 a.toNat b.toNat c.toNat d.toNat:=rfl
end Dec
namespace Dec
open Go.Lib
theorem X9R{s:List UInt8}{c:UInt8}(h:saneL s=true)(hb:begL (s++ [c])=true):feedL s c=(s++ [c],[]):=by
 unfold feedL X4M;rw[if_pos h,if_pos hb]
theorem X9S{s:List UInt8}{c:UInt8}(h:saneL s=true)(hb:begL (s++ [c])=false)(hd:(decL (s++ [c])).2=s.length+1):feedL s c=([],[((decL (s++ [c])).1:Int)]):=by
 unfold feedL X4M;rw[if_pos h,if_neg (by rw[hb];simp),if_pos hd]
theorem Xh2(a:UInt8):(decL [a]).2=1:=by
 rw[dec1];unfold decodeN
 repeat' split
 all_goals first | rfl | omega
theorem XbX(a:UInt8):(decL [a]).1=if a.toNat<128 then a.toNat else 65533:=by
 rw[dec1];unfold decodeN
 repeat' split
 all_goals first | rfl | omega
theorem X9T{s:List UInt8}{c:UInt8}(h:saneL s=true)(hb:begL (s++ [c])=false)(hd: ¬(decL (s++ [c])).2=s.length+1):feedL s c=((feedL [] c).1,65533::(feedL [] c).2):=by
 have e:feedL [] c=if begL [c] then ([c],[]) else ([],[((decL [c]).1:Int)]):=by
  show X4M [] c=_
  unfold X4M;rw[List.nil_append,Xh2];rfl
 rw[e];unfold feedL X4M;rw[if_pos h,if_neg (by rw[hb];simp),if_neg hd]
 split <;> rfl
theorem Xdx{s:List UInt8}{c:UInt8}(h:saneL s=false):feedL s c=feedL [] c:=by
 have e:feedL [] c=X4M [] c:=rfl;rw[e];unfold feedL;rw[if_neg (by rw[h];simp)]
theorem X6a(c:UInt8):feedL [] c=if begL [c] then ([c],[]) else ([],[((decL [c]).1:Int)]):=by
 show X4M [] c=_
 unfold X4M;rw[List.nil_append,Xh2];rfl
theorem X7v{s:List UInt8}(h:begL s=true):saneL s=true:=by
 unfold saneL;rw[h];simp
theorem XA3(x y:Nat)(r:Nat)(h:(2048≤r∧r<55296∨57343<r∧r≤65535)∧x=224+r / 4096∧y=128+r / 64 % 64):Fits x y:=by
 unfold Fits;omega
theorem Xnf(x y:Nat)(r:Nat)(h:(65536≤r∧r≤1114111)∧x=240+r / 262144∧y=128+r / 4096 % 64):Fits x y:=by
 unfold Fits;omega
theorem Xx7(a b r:Nat)(h:(128≤r∧r≤2047)∧a=192+r / 64∧b=128+r % 64):decodeN 2 a b 0 0=(r,2):=by
 unfold decodeN;obtain⟨h1,h2,h3⟩:=h;rw[if_neg (by omega),if_pos (by omega),if_pos (by omega)]
 congr 1
 omega
theorem Xx8(a b c r:Nat)(h:(2048≤r∧r<55296∨57343<r∧r≤65535)∧a=224+r / 4096∧b=128+r / 64 % 64∧c=128+r % 64):decodeN 3 a b c 0=(r,3):=by
 unfold decodeN;obtain⟨h1,h2,h3,h4⟩:=h;have e:a % 16 *4096+b % 64 *64+c % 64=r:=by omega
 rw[if_neg (by omega),if_neg (by omega),if_pos (by omega),e,if_pos (by omega)]
theorem Xx9(a b c d r:Nat)(h:(65536≤r∧r≤1114111)∧a=240+r / 262144∧b=128+r / 4096 % 64∧c=128+r / 64 % 64∧d=128+r % 64):decodeN 4 a b c d=(r,4):=by
 unfold decodeN;obtain⟨h1,h2,h3,h4,h5⟩:=h;have e:a % 8 *262144+b % 64 *4096+c % 64 *64+d % 64=r:=by omega
 rw[if_neg (by omega),if_neg (by omega),if_neg (by omega),if_pos (by omega),e,if_pos (by omega)]
theorem X4N(r:Int):goodB r=true↔0≤r∧r≤1114111∧(r<55296∨57343<r):=by
 unfold goodB;simp [and_assoc]
structure Form (r:Int) (f:List UInt8):Prop where
 len:f.length=if r<128 then 1 else if r<2048 then 2 else if r<65536 then 3 else 4
 beg: ∀k,1≤k→k<f.length→begL (f.take k)=true
 nobeg:begL f=false
 dec:decL f=(r.toNat,f.length)
theorem Xh3(r:Int)(hg:goodB r=true):Form r (Lib.encodeRune r):=by
 obtain⟨h0,h1,h2⟩:=(X4N r).1 hg;obtain⟨n,rfl⟩:=Int.eq_ofNat_of_zero_le h0;rcases (by omega:(n:Int)≤127∨(128≤(n:Int)∧(n:Int)≤2047)∨((2048≤(n:Int)∧(n:Int)<55296)∨(57343<(n:Int)∧(n:Int)≤65535))∨(65536≤(n:Int)∧(n:Int)≤1114111)) with h | h | h | h
 ·have e:Lib.encodeRune (n:Int)= [(n:Int).toNat.toUInt8]:=by
   unfold Lib.encodeRune;rw[Lib.encodeRuneZ_one h0 h];rfl
  have e1:=X2U (n:Int) (by omega) (by omega);rw[e];refine⟨?_,?_,?_,?_⟩
  ·rw[if_pos (by omega)];rfl
  ·intro k h3 h4;simp at h4;omega
  ·rw[Bool.eq_false_iff];intro h5;have:=(beg1 _).1 h5;omega
  ·rw[dec1,e1];unfold decodeN;rw[if_pos (by omega)];rfl
 ·have e:Lib.encodeRune (n:Int)= [(192+(n:Int) / 64).toNat.toUInt8,(128+(n:Int) % 64).toNat.toUInt8]:=by
   unfold Lib.encodeRune;rw[Lib.encodeRuneZ_two h.1 h.2];rfl
  have e1:=X2U (192+(n:Int) / 64) (by omega) (by omega);have e2:=X2U (128+(n:Int) % 64) (by omega) (by omega);rw[e];generalize (192+(n:Int) / 64).toNat.toUInt8=a at *
  generalize (128+(n:Int) % 64).toNat.toUInt8=b at *
  refine⟨?_,?_,?_,?_⟩
  ·rw[if_neg (by omega),if_pos (by omega)];rfl
  ·intro k h3 h4;obtain rfl:k=1:=by simp at h4;omega
   exact(beg1 _).2 (by omega)
  ·rw[Bool.eq_false_iff];intro h5;have:=((beg2 _ _).1 h5).lo;omega
  ·rw[dec2,Xx7 _ _ n (by omega)];simp
 ·have e:Lib.encodeRune (n:Int)= [(224+(n:Int) / 4096).toNat.toUInt8,(128+(n:Int) / 64 % 64).toNat.toUInt8,(128+(n:Int) % 64).toNat.toUInt8]:=by
   unfold Lib.encodeRune;rw[Lib.encodeRuneZ_three h];rfl
  have e1:=X2U (224+(n:Int) / 4096) (by omega) (by omega);have e2:=X2U (128+(n:Int) / 64 % 64) (by omega) (by omega);have e3:=X2U (128+(n:Int) % 64) (by omega) (by omega);rw[e];generalize (224+(n:Int) / 4096).toNat.toUInt8=a at *
  generalize (128+(n:Int) / 64 % 64).toNat.toUInt8=b at *
  generalize (128+(n:Int) % 64).toNat.toUInt8=c at *
  refine⟨?_,?_,?_,?_⟩
  ·rw[if_neg (by omega),if_neg (by omega),if_pos (by omega)];rfl
  ·intro k h3 h4;rcases (by simp at h4;omega:k=1∨k=2) with rfl | rfl
   ·exact(beg1 _).2 (by omega)
   ·exact(beg2 _ _).2 (XA3 _ _ n (by omega))
  ·rw[Bool.eq_false_iff];intro h5;have:=((beg3 _ _ _).1 h5).2.1;omega
  ·rw[dec3,Xx8 _ _ _ n (by omega)];simp
 ·have e:Lib.encodeRune (n:Int)= [(240+(n:Int) / 262144).toNat.toUInt8,(128+(n:Int) / 4096 % 64).toNat.toUInt8,(128+(n:Int) / 64 % 64).toNat.toUInt8,(128+(n:Int) % 64).toNat.toUInt8]:=by
   unfold Lib.encodeRune;rw[Lib.encodeRuneZ_four h.1 h.2];rfl
  have e0:=X2U (240+(n:Int) / 262144) (by omega) (by omega);have e1:=X2U (128+(n:Int) / 4096 % 64) (by omega) (by omega);have e2:=X2U (128+(n:Int) / 64 % 64) (by omega) (by omega);have e3:=X2U (128+(n:Int) % 64) (by omega) (by omega);rw[e];generalize (240+(n:Int) / 262144).toNat.toUInt8=a at *
  generalize (128+(n:Int) / 4096 % 64).toNat.toUInt8=b at *
  generalize (128+(n:Int) / 64 % 64).toNat.toUInt8=c at *
  generalize (128+(n:Int) % 64).toNat.toUInt8=d at *
  refine⟨?_,?_,?_,?_⟩
  ·rw[if_neg (by omega),if_neg (by omega),if_neg (by omega)];rfl
  ·intro k h3 h4;rcases (by simp at h4;omega:k=1∨k=2∨k=3) with rfl | rfl | rfl
   ·exact(beg1 _).2 (by omega)
   ·exact(beg2 _ _).2 (Xnf _ _ n (by omega))
   ·exact(beg3 _ _ _).2 ⟨Xnf _ _ n (by omega),by omega,by omega,by omega⟩
  ·exact beg4 _ (by simp)
  ·rw[dec4,Xx9 _ _ _ _ n (by omega)];simp
theorem Xng(r:Int):goodB (fix r)=true:=by
 unfold fix
 split
 ·assumption
 ·decide
theorem Xnh{r:Int}(h:goodB r=true):fix r=r:=by
 unfold fix;rw[if_pos h]
end Dec
namespace Dec
open Go.Lib
def cnt(s:List UInt8):Nat:=if begL s then 1 else 0
theorem XbY:begL []=false:=rfl
theorem X8t(c:UInt8):(feedL [] c).2.length+cnt (feedL [] c).1≤1:=by
 rw[X6a]
 split
 ·rename_i h;simp [cnt,h]
 ·simp [cnt,XbY]
theorem XdA(s:List UInt8)(c:UInt8):(feedL s c).2.length+cnt (feedL s c).1≤1+cnt s:=by
 cases hs:saneL s with
 |
  false=>
  rw[Xdx hs];have:=X8t c;omega
 |
  true=>
  cases hb:begL (s++ [c]) with
  |
   true=>
   rw[X9R hs hb];simp [cnt,hb]
  |
   false=>
   by_cases hd:(decL (s++ [c])).2=s.length+1
   ·rw[X9S hs hb hd];simp [cnt,XbY]
   ·rw[X9T hs hb hd];have h0:=X8t c;have hc:cnt s=1:=by
     unfold cnt;unfold saneL at hs;cases s with
     | nil=>exact absurd (by simpa using Xh2 c) hd
     | cons a s=>simp at hs;rw[if_pos hs]
    simp;omega
theorem Xxc(s:List UInt8)(bs:List UInt8):(runL s bs).2.length+cnt (runL s bs).1≤bs.length+cnt s:=by
 induction bs generalizing s with
 | nil=>simp [runL]
 |
  cons c bs ih=>
  simp only[runL,List.length_append,List.length_cons];have h1:=XdA s c;have h2:=ih (feedL s c).1;omega
theorem X20(bs:List UInt8):(allL bs).length≤bs.length:=by
 rw[X6C];unfold allLL endLL;have h:=Xxc [] bs;unfold cnt at h;rw[XbY] at h
 split
 ·rename_i hb;rw[if_pos hb] at h;simp at h ⊢;omega
 ·rename_i hb;rw[if_neg hb] at h;simp at h ⊢;omega
theorem XlD(s:List UInt8)(c:UInt8):saneL (X4M s c).1=true:=by
 unfold X4M
 repeat' split
 ·rename_i h;exact X7v h
 ·rfl
 ·rename_i h;exact X7v h
 ·rfl
theorem X82(s:List UInt8)(c:UInt8):saneL (feedL s c).1=true:=by
 unfold feedL
 split <;> exact XlD _ _
theorem Xtj{s:List UInt8}(h:saneL s=true):s.length≤3:=by
 rcases Nat.lt_or_ge 3 s.length with h3 | h3
 ·unfold saneL at h;rw[beg4 s h3] at h;simp at h;subst h;simp
 ·exact h3
def low(l:List Int):List Int:=l.filter fun x=>decide (x<128)
end Dec
end Go.Proofs.YtkofnpkopbnocaaGreatDoor
namespace Go.Proofs.YtkofnpkopbnocaaGreatDoor.Cas
def T:List (Int × List Int):= [
 (65,[97]),(66,[98]),(67,[99]),(68,[100]),(69,[101]),(70,[102]),(71,[103]),(72,[104]),(73,[105]),(74,[106]),(75,[107]),(76,[108]),(77,[109]),
 (78,[110]),(79,[111]),(80,[112]),(81,[113]),(82,[114]),(83,[115]),(84,[116]),(85,[117]),(86,[118]),(87,[119]),(88,[120]),(89,[121]),(90,[122]),
 (181,[956]),(192,[224]),(193,[225]),(194,[226]),(195,[227]),(196,[228]),(197,[229]),(198,[230]),(199,[231]),(200,[232]),(201,[233]),(202,[234]),
 (203,[235]),(204,[236]),(205,[237]),(206,[238]),(207,[239]),(208,[240]),(209,[241]),(210,[242]),(211,[243]),(212,[244]),(213,[245]),(214,[246]),
 (216,[248]),(217,[249]),(218,[250]),(219,[251]),(220,[252]),(221,[253]),(222,[254]),(223,[115,115]),(256,[257]),(258,[259]),(260,[261]),
 (262,[263]),(264,[265]),(266,[267]),(268,[269]),(270,[271]),(272,[273]),(274,[275]),(276,[277]),(278,[279]),(280,[281]),(282,[283]),(284,[285]),
 (286,[287]),(288,[289]),(290,[291]),(292,[293]),(294,[295]),(296,[297]),(298,[299]),(300,[301]),(302,[303]),(304,[105,775]),(306,[307]),
 (308,[309]),(310,[311]),(313,[314]),(315,[316]),(317,[318]),(319,[320]),(321,[322]),(323,[324]),(325,[326]),(327,[328]),(329,[700,110]),
 (330,[331]),(332,[333]),(334,[335]),(336,[337]),(338,[339]),(340,[341]),(342,[343]),(344,[345]),(346,[347]),(348,[349]),(350,[351]),(352,[353]),
 (354,[355]),(356,[357]),(358,[359]),(360,[361]),(362,[363]),(364,[365]),(366,[367]),(368,[369]),(370,[371]),(372,[373]),(374,[375]),(376,[255]),
 (377,[378]),(379,[380]),(381,[382]),(383,[115]),(416,[417]),(418,[419]),(420,[421]),(422,[640]),(423,[424]),(425,[643]),(428,[429]),(430,[648]),
 (431,[432]),(837,[953]),(902,[940]),(904,[941]),(905,[942]),(906,[943]),(908,[972]),(910,[973]),(911,[974]),(912,[953,776,769]),(913,[945]),
 (914,[946]),(915,[947]),(916,[948]),(917,[949]),(918,[950]),(919,[951]),(920,[952]),(921,[953]),(922,[954]),(923,[955]),(924,[956]),(925,[957]),
 (926,[958]),(927,[959]),(928,[960]),(929,[961]),(931,[963]),(932,[964]),(933,[965]),(934,[966]),(935,[967]),(936,[968]),(937,[969]),(938,[970]),
 (939,[971]),(944,[965,776,769]),(962,[963]),(7840,[7841]),(7842,[7843]),(7844,[7845]),(7846,[7847]),(7848,[7849]),(7850,[7851]),(7852,[7853]),
 (7854,[7855]),(7856,[7857]),(7858,[7859]),(7860,[7861]),(7862,[7863]),(7864,[7865]),(7866,[7867]),(7868,[7869]),(7870,[7871]),(7872,[7873]),
 (7874,[7875]),(7876,[7877]),(7878,[7879]),(7880,[7881]),(7882,[7883]),(7884,[7885]),(7886,[7887]),(7888,[7889]),(7890,[7891]),(7892,[7893]),
 (7894,[7895]),(7896,[7897]),(7898,[7899]),(7900,[7901]),(7902,[7903]),(7904,[7905]),(7906,[7907]),(7908,[7909]),(7910,[7911]),(7912,[7913]),
 (7914,[7915]),(7916,[7917]),(7918,[7919]),(7920,[7921]),(7922,[7923]),(7924,[7925]),(7926,[7927]),(7928,[7929])]
def foldI(r:Int):List Int:=(Lk.look T r).getD [r]
theorem X3h(r:Int):foldI r= [r]∨(r,foldI r)∈T:=by
 cases e:Lk.look T r with
 | none=>left;unfold foldI;rw[e];rfl
 |
  some p=>
  right;have h:foldI r=p:=by unfold foldI;rw[e];rfl
  rw[h];exact Lk.X80 e
theorem Xgh: ∀s∈T,1≤s.2.length∧s.2.length≤3:=by decide+kernel
theorem X9g(r:Int):1≤(foldI r).length∧(foldI r).length≤3:=by
 rcases X3h r with h | h
 ·rw[h];simp
 ·exact Xgh _ h
def allI(l:List Int):List Int:=l.flatMap foldI
theorem Xav(a b:List Int):allI (a++b)=allI a++allI b:=by unfold allI;rw[List.flatMap_append]
theorem XvS(l:List Int)(r:Int):allI (l++ [r])=allI l++foldI r:=by rw[Xav];simp [allI]
theorem X20(l:List Int):l.length≤(allI l).length∧(allI l).length≤3 *l.length:=by
 induction l with
 | nil=>simp [allI]
 |
  cons r l ih=>
  have h:=X9g r;have e:allI (r::l)=foldI r++allI l:=rfl;rw[e,List.length_append,List.length_cons];omega
def cap(k:Nat):Int:=if 57≤k then 0x391+(k:Int) - 57 else if 26≤k then 0xC0+(k:Int) - 26 else 65+(k:Int)
end Go.Proofs.YtkofnpkopbnocaaGreatDoor.Cas
namespace Go.Proofs.YtkofnpkopbnocaaGreatDoor.Nfk
open Prp (mrkB cccI)
open Dcp (fullI)
open Can
def safeI:List Int→Nat→List Int
 | [],_=> []
 | x::t,n=>if mrkB x=true then (if n=30 then 847::x::safeI t 1 else x::safeI t (n+1)) else x::safeI t 0
def madeI(l:List Int):List Int:=l.flatMap fullI
def nfkdI(l:List Int):List Int:=X0S (safeI (madeI l) 0)
def nfkcI(l:List Int):List Int:=X0s (nfkdI l)
theorem Xbt:mrkB 847=false:=by decide+kernel
theorem XtQ(b:List Bool)(k:Nat):runB b k≤k+b.length:=by
 induction b generalizing k with
 | nil=>simp [runB]
 |
  cons x t ih=>
  simp only[runB,List.length_cons];cases x with
  | true=>have:=ih (k+1);simp only[if_true];omega
  | false=>have:=ih 0;simp only[Bool.false_eq_true,if_false];omega
theorem X8U(a b:List Bool)(n:Nat):runB (a++b) n≤max n (runB a n)+b.length:=by
 induction a generalizing n with
 | nil=>have:=XtQ b n;simp only[List.nil_append];omega
 |
  cons x t ih=>
  simp only[List.cons_append,runB];cases x with
  | true=>have:=ih (n+1);simp only[if_true];omega
  | false=>have:=ih 0;simp only[Bool.false_eq_true,if_false];omega
end Go.Proofs.YtkofnpkopbnocaaGreatDoor.Nfk
namespace Go.Proofs.YtkofnpkopbnocaaGreatDoor.Nor
open Prp (mrkB cccI)
open Dcp (fullI)
open Par (joinI)
open Can Nfk
def cntI(l:List Int):Nat:=(l.filter mrkB).length
def headI(l:List Int)(d:Int):List Int × List Int:=
 match X0s l with
 | [x]=>if mrkB x=false then (match joinI x d with | some v=>([v],[]) | none=>([d],[x])) else ([d],[x])
 | c=>([d],c)
def insI(l:List Int)(d:Int):List Int:=(insR d l.reverse).reverse
def putI(l:List Int)(d:Int):List Int × List Int:=
 if mrkB d=true then (if cntI l=30 then (insI (headI l 847).1 d,(headI l 847).2) else (insI l d,[])) else headI l d
def runI:List Int→List Int→List Int × List Int
 | l,[]=>(l,[])
 | l,d::t=>((runI (putI l d).1 t).1,(putI l d).2++(runI (putI l d).1 t).2)
def saneB(l:List Int):Bool:=l.tail.all mrkB && decide (cntI l≤30) && X21 l
def feedI(l:List Int)(r:Int):List Int × List Int:=runI (if saneB l=true then l else []) (fullI r)
def endI(l:List Int):List Int:=if saneB l=true then X0s l else []
def X1J:List Int→List Int→List Int × List Int
 | l,[]=>(l,[])
 | l,r::t=>((X1J (feedI l r).1 t).1,(feedI l r).2++(X1J (feedI l r).1 t).2)
def allI(l:List Int):List Int:=(X1J [] l).2++endI (X1J [] l).1
theorem X8U(l a b:List Int):runI l (a++b)=((runI (runI l a).1 b).1,(runI l a).2++(runI (runI l a).1 b).2):=by
 induction a generalizing l with
 | nil=>simp [runI]
 | cons d t ih=>simp only[List.cons_append,runI];rw[ih];simp
structure Kept (l:List Int):Prop where
 form: ∃H M,l=H++M∧(∀m∈M,mrkB m=true)∧(H= []∨∃h,H= [h]∧mrkB h=false)
 few:cntI l≤30
 ord:X21 l=true
theorem X7A{l:List Int}(h:Kept l):saneB l=true:=by
 obtain⟨H,M,rfl,hM,hH⟩:=h.form;unfold saneB;rw[h.ord,decide_eq_true h.few];have:(H++M).tail.all mrkB=true:=by
  rcases hH with rfl | ⟨x,rfl,_⟩
  ·simp only[List.nil_append,List.all_eq_true];intro m hm;exact hM m (List.mem_of_mem_tail hm)
  ·simp only[List.singleton_append,List.tail_cons,List.all_eq_true];exact hM
 rw[this];rfl
theorem Xa3{l:List Int}(h:saneB l=true):Kept l:=by
 unfold saneB at h;simp only[Bool.and_eq_true,decide_eq_true_eq,List.all_eq_true] at h;obtain⟨⟨h1,h2⟩,h3⟩:=h;refine⟨?_,h2,h3⟩;cases l with
 | nil=>exact⟨[],[],rfl,(fun _ h=>by cases h), .inl rfl⟩
 |
  cons x t=>
  by_cases hx:mrkB x=true
  ·refine⟨[],x::t,rfl,fun m hm=>?_, .inl rfl⟩;rcases List.mem_cons.1 hm with rfl | hm
   ·exact hx
   ·exact h1 m hm
  ·exact⟨[x],t,rfl,h1, .inr ⟨x,rfl,by simpa using hx⟩⟩
theorem Xa4:Kept []:=⟨⟨[],[],rfl,(fun _ h=>by cases h), .inl rfl⟩,by decide,rfl⟩
theorem Xc6{v:Int}(hv:mrkB v=false):Kept [v]:=⟨⟨[v],[],rfl,(fun _ h=>by cases h), .inr ⟨v,rfl,hv⟩⟩,by simp [cntI,hv],rfl⟩
theorem Xa5{M:List Int}(h: ∀m∈M,mrkB m=true):cntI M=M.length:=by
 unfold cntI;rw[List.filter_eq_self.2 h]
theorem Xc7{H M:List Int}(hM: ∀m∈M,mrkB m=true)(hH:H= []∨∃h,H= [h]∧mrkB h=false):cntI (H++M)=M.length:=by
 rcases hH with rfl | ⟨x,rfl,hx⟩
 ·exact Xa5 hM
 ·unfold cntI;rw[List.singleton_append,List.filter_cons,hx];simp only[Bool.false_eq_true,if_false];rw[List.filter_eq_self.2 hM]
theorem X6K{l:List Int}(h:Kept l):l.length≤31:=by
 obtain⟨H,M,rfl,hM,hH⟩:=h.form;have:=h.few;rw[Xc7 hM hH] at this;rcases hH with rfl | ⟨x,rfl,_⟩ <;> simp <;> omega
theorem XCq(x:Int):joinI x 847=none:=X5X Xbt (by omega) x
theorem XlW(l:List Int):headI l 847=([847],X0s l):=by
 unfold headI;cases X0s l with
 | nil=>rfl
 |
  cons x t=>
  cases t with
  | nil=>simp only[XCq];split <;> rfl
  | cons y u=>rfl
structure At (s l out:List Int):Prop where
 at_: ∃W M,X2k s []=M.reverse++W.reverse∧(∀m∈M,mrkB m=true)∧M.length≤30∧
  ((W= []∧l=M∧out= [])∨∃h W' x,mrkB h=false∧l=h::M∧compR W []=h::out.reverse∧W=W'++ [x]∧mrkB x=false)
theorem X6V:At [] [] []:=⟨[],[],rfl,(fun _ h=>by cases h),by simp, .inl ⟨rfl,rfl,rfl⟩⟩
theorem XfM{d:Int}{N:List Int}(hd:mrkB d=true)(h: ∀m∈N,mrkB m=true): ∀m∈insR d N,mrkB m=true:=by
 induction N with
 | nil=>
  intro m hm;obtain rfl:m=d:=by simpa [insR] using hm
  exact hd
 |
  cons x t ih=>
  intro m hm;unfold insR at hm
  split at hm
  ·rcases List.mem_cons.1 hm with rfl | hm
   ·exact h m (List.mem_cons_self ..)
   ·exact ih (fun y hy=>h y (List.mem_cons_of_mem _ hy)) m hm
  ·rcases List.mem_cons.1 hm with rfl | hm
   ·exact hd
   ·exact h m hm
theorem X8X{l:List Int}{d:Int}(hd:mrkB d=true):cntI (insI l d)=cntI l+1:=by
 unfold cntI insI;rw[List.filter_reverse,List.length_reverse];have: ∀N:List Int,((insR d N).filter mrkB).length=(N.filter mrkB).length+1:=by
  intro N
  induction N with
  | nil=>simp [insR,hd]
  |
   cons x t ih=>
   unfold insR
   split
   ·rename_i h;rw[List.filter_cons,List.filter_cons,h.1];simp only[if_true,List.length_cons,ih]
   ·rw[List.filter_cons,hd];simp
 rw[this,List.filter_reverse,List.length_reverse]
theorem Xho(l:List Int){d:Int}(hd:mrkB d=false):cntI (headI l d).1=0:=by
 unfold headI
 split
 ·split
  ·split
   ·rename_i e;simp [cntI,(X2P e).1]
   ·simp [cntI,hd]
  ·simp [cntI,hd]
 ·simp [cntI,hd]
theorem Xnu{l:List Int}{d:Int}(h:Kept l)(hd:mrkB d=true)(hr:cntI l<30):Kept (insI l d):=by
 obtain⟨H,M,rfl,hM,hH⟩:=h.form;refine⟨?_,by rw[X8X hd];omega,?_⟩
 ·have a: ∀m∈M.reverse,mrkB m=true:=fun m hm=>hM m (List.mem_reverse.1 hm);refine⟨H,(insR d M.reverse).reverse,?_,fun m hm=>XfM hd a m (List.mem_reverse.1 hm),hH⟩;unfold insI;rcases hH with rfl | ⟨x,rfl,hx⟩
  ·rfl
  ·rw[List.reverse_append];have h2: ∀N:List Int,insR d (N++ [x])=insR d N++ [x]:=by
    intro N
    induction N with
    | nil=>simp [insR,hx]
    |
     cons y t ih=>
     simp only[List.cons_append];unfold insR
     split
     ·rw[ih];rfl
     ·rfl
   simp only[List.reverse_cons,List.reverse_nil,List.nil_append];rw[h2];simp
 ·have:=h.ord;unfold X21 insI at *
  rw[List.reverse_reverse];exact XmT this
theorem XjO(l:List Int){d:Int}(hd:mrkB d=false):Kept (headI l d).1:=by
 unfold headI
 split
 ·split
  ·split
   ·rename_i e;exact Xc6 (X2P e).1
   ·exact Xc6 hd
  ·exact Xc6 hd
 ·exact Xc6 hd
theorem Xnv{l:List Int}(h:Kept l)(d:Int):Kept (putI l d).1:=by
 unfold putI;by_cases hd:mrkB d=true
 ·rw[if_pos hd];by_cases h30:cntI l=30
  ·rw[if_pos h30];exact Xnu (XjO l Xbt) hd (by rw[Xho l Xbt];omega)
  ·rw[if_neg h30];exact Xnu h hd (by have:=h.few;omega)
 ·rw[if_neg hd];exact XjO l (by simpa using hd)
theorem Xnw{l:List Int}(h:Kept l)(D:List Int):Kept (runI l D).1:=by
 induction D generalizing l with
 | nil=>exact h
 | cons d t ih=>exact ih (Xnv h d)
theorem Xe6(l:List Int)(r:Int):Kept (feedI l r).1:=by
 unfold feedI;refine Xnw ?_ _
 split
 ·rename_i h;exact Xa3 h
 ·exact Xa4
theorem XjP(l:List Int)(d:Int):(headI l d).2.length≤l.length:=by
 have:=X1k l;unfold headI
 split
 ·rename_i e;rw[e] at this
  split
  ·split
   ·simp
   ·exact this
  ·exact this
 ·exact this
theorem Xxw{l:List Int}(h:Kept l)(d:Int):(putI l d).2.length≤31:=by
 have hl:=X6K h;unfold putI
 split
 ·split
  ·have:=XjP l 847;show (headI l 847).2.length≤31;omega
  ·simp
 ·have:=XjP l d;omega
theorem Xxx{l:List Int}(h:Kept l)(D:List Int):(runI l D).2.length≤31 *D.length:=by
 induction D generalizing l with
 | nil=>simp [runI]
 |
  cons d t ih=>
  simp only[runI,List.length_append,List.length_cons];have h1:=Xxw h d;have h2:=ih (Xnv h d);omega
theorem X1G(l:List Int)(r:Int):(feedI l r).2.length≤130:=by
 unfold feedI;have hk:Kept (if saneB l=true then l else []):=by
  split
  ·rename_i h;exact Xa3 h
  ·exact Xa4
 have h1:=Xxx hk (fullI r);have h2:=(Dcp.X1U r).2;omega
theorem Xe7{l:List Int}(h:Kept l)(a:List Int):X1J l a=runI l (madeI a):=by
 induction a generalizing l with
 | nil=>rfl
 |
  cons r t ih=>
  have e:madeI (r::t)=fullI r++madeI t:=rfl;have ef:feedI l r=runI l (fullI r):=by unfold feedI;rw[if_pos (X7A h)]
  rw[e,X8U,←ef];simp only[X1J];rw[ih (Xe6 l r)]
theorem X4f(l a b:List Int):X1J l (a++b)=((X1J (X1J l a).1 b).1,(X1J l a).2++(X1J (X1J l a).1 b).2):=by
 induction a generalizing l with
 | nil=>simp [X1J]
 | cons r t ih=>simp only[List.cons_append,X1J];rw[ih];simp
theorem Xnx(l:List Int)(d:Int):(headI l d).1.length+(headI l d).2.length≤l.length+1:=by
 have:=X1k l;unfold headI
 split
 ·rename_i e;rw[e] at this;simp only[List.length_cons,List.length_nil] at this
  split
  ·split <;> simp <;> omega
  ·simp;omega
 ·simp;omega
theorem XAm(l:List Int)(d:Int):(putI l d).1.length+(putI l d).2.length≤l.length+2:=by
 unfold putI
 split
 ·split
  ·have:=Xnx l 847;simp only[insI,List.length_reverse,X9q];omega
  ·simp [insI,X9q]
 ·have:=Xnx l d;omega
theorem Xhp(l D:List Int):(runI l D).1.length+(runI l D).2.length≤l.length+2 *D.length:=by
 induction D generalizing l with
 | nil=>simp [runI]
 |
  cons d t ih=>
  simp only[runI,List.length_append,List.length_cons];have h1:=XAm l d;have h2:=ih (putI l d).1;omega
theorem X3u(l:List Int):(madeI l).length≤4 *l.length:=by
 induction l with
 | nil=>simp [madeI]
 |
  cons x t ih=>
  have e:madeI (x::t)=fullI x++madeI t:=rfl;have:=(Dcp.X1U x).2;rw[e,List.length_append,List.length_cons];omega
end Go.Proofs.YtkofnpkopbnocaaGreatDoor.Nor
namespace Go.Proofs.YtkofnpkopbnocaaGreatDoor.Fol
open Prp (drpB)
open Nor Nfk
def leftI(l:List Int):List Int:=(Cas.allI l).filter fun r=> !drpB r
theorem XgD(r:Int):(leftI [r]).length≤3:=by
 have h1:=(Cas.X20 [r]).2;have h2:=List.length_filter_le (fun r=> !drpB r) (Cas.allI [r]);simp only[List.length_cons,List.length_nil] at h1;unfold leftI;omega
def feedI(l:List Int)(r:Int):List Int × List Int:=X1J (if saneB l=true then l else []) (leftI [r])
theorem XgE(l:List Int):Kept (if saneB l=true then l else []):=by
 split
 ·rename_i h;exact Xa3 h
 ·exact Xa4
theorem X7m(l:List Int)(r:Int):Kept (feedI l r).1:=by
 unfold feedI;rw[Xe7 (XgE l)];exact Xnw (XgE l) _
theorem X1G(l:List Int)(r:Int):(feedI l r).2.length≤130:=by
 unfold feedI;rw[Xe7 (XgE l)];have h1:=Xhp (if saneB l=true then l else []) (madeI (leftI [r]));have h2:=X6K (XgE l);have h3:=X3u (leftI [r]);have h4:=XgD r;omega
def fedsI:List Int→List Int→List Int × List Int
 | l,[]=>(l,[])
 | l,r::t=>((fedsI (feedI l r).1 t).1,(feedI l r).2++(fedsI (feedI l r).1 t).2)
def allI(l:List Int):List Int:=(fedsI [] l).2++endI (fedsI [] l).1
end Go.Proofs.YtkofnpkopbnocaaGreatDoor.Fol
namespace Go.Proofs.YtkofnpkopbnocaaGreatDoor.Clu
open Prp (gcbI)
structure CS where
 on:Bool
 kind:Int
 pict:Bool
 odd:Bool
deriving DecidableEq
def zero:CS:=⟨false,0,false,false⟩
def saneB(s:CS):Bool:=
 if s.on=false then decide (s=zero)
 else decide (0≤s.kind) && decide (s.kind≤14) && (!s.pict || decide (s.kind=14) || decide (s.kind=4) || decide (s.kind=5)) && (s.pict || !decide (s.kind=14)) && (!s.odd || decide (s.kind=6))
def Xbj(a b:Int):Bool:=
 decide (a=9∧(b=9∨b=10∨b=12∨b=13)) || decide ((a=10∨a=12)∧(b=10∨b=11)) || decide ((a=11∨a=13)∧b=11) || decide (b=4∨b=5∨b=8∨a=7)
def endsK(s:CS)(k:Int):Bool:=
 if saneB s=false∨s.on=false then false
 else if s.kind=1∧k=2 then false
 else if (1≤s.kind∧s.kind≤3)∨(1≤k∧k≤3) then true
 else !(Xbj s.kind k || (decide (s.kind=5) && s.pict && decide (k=14)) || (decide (s.kind=6) && s.odd && decide (k=6)))
def endsI(s:CS)(r:Int):Bool:=endsK s (gcbI r)
def nextK(s0:CS)(k:Int):CS:=
 let s:=if saneB s0=true then s0 else zero
 ⟨true,k,decide (k=14) || (decide (k=4∨k=5) && s.pict && !decide (s.kind=5)),decide (k=6) && !s.odd⟩
def nextI(s:CS)(r:Int):CS:=nextK s (gcbI r)
def cutsI:CS→List Int→List Bool
 | _,[]=> []
 | s,r::t=>endsI s r::cutsI (nextI s r) t
def goI(s:CS)(l:List Int):CS:=l.foldl nextI s
theorem X5W(s:CS)(r:Int):saneB (nextI s r)=true∧(nextI s r).on=true∧(nextI s r).kind=gcbI r:=by
 have hb:=Prp.Xq8 r;refine⟨?_,rfl,rfl⟩;unfold nextI nextK saneB;obtain⟨k,hk⟩: ∃k,gcbI r=k:=⟨_,rfl⟩;rw[hk] at hb ⊢;generalize (if saneB s=true then s else zero)=z;simp only[Bool.true_eq_false,if_false];by_cases h14:k=14
 ·subst h14;simp
 ·by_cases h4:k=4∨k=5
  ·rcases h4 with rfl | rfl <;> simp
  ·by_cases h6:k=6
   ·subst h6;simp
   ·simp [h14,h4,h6];omega
theorem X9l(r:Int):endsI zero r=false:=by unfold endsI endsK;rw[if_pos (.inr rfl)]
end Go.Proofs.YtkofnpkopbnocaaGreatDoor.Clu
namespace Go.Proofs.YtkofnpkopbnocaaGreatDoor.Sgm
open Prp (gcbI)
open Clu (CS zero endsI nextI cutsI goI)
def saneB(c:List Int)(s:CS):Bool:=decide (c.length≤32) && Clu.saneB s && (s.on == !c.isEmpty)
def stepI(c:List Int)(s:CS)(r:Int):(List Int × CS) × List Int:=
 if c≠ []∧(endsI s r=true∨c.length=32) then (([r],nextI s r),c) else ((c++ [r],nextI s r),[])
def feedI(c:List Int)(s:CS)(r:Int):(List Int × CS) × List Int:=if saneB c s=true then stepI c s r else stepI [] zero r
def endI(c:List Int)(s:CS):List Int:=if saneB c s=true then c else []
def segs:List Int→CS→List Int→List (List Int)
 | c,_,[]=>if c= [] then [] else [c]
 | c,s,r::t=>if c≠ []∧(endsI s r=true∨c.length=32) then c::segs [r] (nextI s r) t else segs (c++ [r]) (nextI s r) t
def allI(l:List Int):List (List Int):=segs [] zero l
theorem X6c{c:List Int}{s:CS}{r:Int}(h:c.length≤32)(hs:c= []→endsI s r=false):saneB (stepI c s r).1.1 (stepI c s r).1.2=true:=by
 obtain⟨a,b,_⟩:=Clu.X5W s r;unfold stepI
 split
 ·rename_i hc;unfold saneB;simp only[a,b];simp
 ·rename_i hc;have hl:(c++ [r]).length≤32:=by
   by_cases h0:c= []
   ·subst h0;simp
   ·have: ¬c.length=32:=fun d=>hc ⟨h0, .inr d⟩;simp;omega
  unfold saneB;simp only[a,b,decide_eq_true hl];simp
theorem X3G(c:List Int)(s:CS)(r:Int):saneB (feedI c s r).1.1 (feedI c s r).1.2=true:=by
 unfold feedI
 split
 ·rename_i h;unfold saneB at h;simp only[Bool.and_eq_true,decide_eq_true_eq,beq_iff_eq] at h;refine X6c h.1.1 fun h0=>?_;subst h0;have a:s.on=false:=by simpa using h.2
  unfold endsI Clu.endsK;rw[if_pos (.inr a)]
 ·exact X6c (by simp) fun _=>Clu.X9l r
def runI:List Int→CS→List Int→List (List Int) × (List Int × CS)
 | c,s,[]=>([],(c,s))
 | c,s,r::t=>if c≠ []∧(endsI s r=true∨c.length=32) then (c::(runI [r] (nextI s r) t).1,(runI [r] (nextI s r) t).2) else runI (c++ [r]) (nextI s r) t
end Go.Proofs.YtkofnpkopbnocaaGreatDoor.Sgm
namespace Go.Proofs.YtkofnpkopbnocaaGreatDoor.Frm
open Var (putN takeL)
def big:Nat:=268435455
def X1g(t:List UInt8):List UInt8:=putN t.length++t
def putF(c:List Int):List UInt8:=if c= []∨big<(Dec.textL c).length then [] else X1g (Dec.textL c)
theorem X3F{c:List Int}(h:c≠ [])(hl:c.length≤1000000):putF c=X1g (Dec.textL c)∧(Dec.textL c).length≤big:=by
 have:=Dec.Xjf c;have hb:(Dec.textL c).length≤big:=by unfold big;omega
 exact⟨by unfold putF;rw[if_neg];rintro (h1 | h1);exact h h1;omega,hb⟩
end Go.Proofs.YtkofnpkopbnocaaGreatDoor.Frm
namespace Go.Proofs.YtkofnpkopbnocaaGreatDoor.Flw
open Prp (mrkB cccI drpB gcbI)
open Dcp (fullI)
open Par (joinI)
open Can Nfk Fol
def X39(b:List UInt8):List Int:=nfkcI (leftI (nfkcI (Dec.allL b)))
def Whole(w:Int):Prop:=fullI w= [w]∨∃h r,joinI h r=some w
def Xfu(q:Int):Bool:=decide (Cas.foldI q= [q])
def rowB(s:Int × List Int):Bool:= !((fullI s.1).all Xfu) || decide (madeI s.2=fullI s.1)
end Go.Proofs.YtkofnpkopbnocaaGreatDoor.Flw
