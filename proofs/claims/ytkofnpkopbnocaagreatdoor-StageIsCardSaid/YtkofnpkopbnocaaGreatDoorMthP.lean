import Derived.Test.YtkofnpkopbnocaaGreatDoorRows
import Derived.Sort.LotA
set_option linter.unusedSimpArgs false
set_option linter.unusedVariables false
namespace Go.Proofs.YtkofnpkopbnocaaGreatDoor.Prp
abbrev Row:=Int × Int × Int
def look:List Row→Int→Option Int
 | [],_=>none
 | s::t,r=>if s.1≤r∧r≤s.2.1 then some s.2.2 else look t r
def pos:List Row→Int→Nat
 | [],_=>0
 | s::t,r=>if s.2.1<r then pos t r+1 else 0
def Sorted(l:List Row):Prop:=(∀s∈l,s.1≤s.2.1)∧l.Pairwise (fun s t=>s.2.1<t.1)
instance (l:List Row):Decidable (Sorted l):=inferInstanceAs (Decidable (_∧_))
theorem X6M{s:Row}{l:List Row}(h:Sorted (s::l)):Sorted l:=
 ⟨fun x hx=>h.1 x (List.mem_cons_of_mem _ hx),(List.pairwise_cons.1 h.2).2⟩
theorem Xtc(l:List Row)(r:Int):pos l r≤l.length:=by
 induction l with
 | nil=>exact Nat.le_refl _
 | cons s t ih=>unfold pos;split <;> simp <;> omega
theorem X57{l:List Row}(hs:Sorted l)(r:Int)(k:Nat)(hk:k<l.length):l[k].2.1<r↔k<pos l r:=by
 induction l generalizing k with
 | nil=>simp at hk
 |
  cons s t ih=>
  unfold pos;cases k with
  | zero=>simp only[List.getElem_cons_zero];split <;> simp_all
  |
   succ k=>
   simp only[List.getElem_cons_succ];have a:k<t.length:=by simpa using hk
   rw[ih (X6M hs) k a]
   split
   ·omega
   ·rename_i h;have h1:=(List.pairwise_cons.1 hs.2).1 t[k] (List.getElem_mem a);have h2:=hs.1 t[k] (List.mem_cons_of_mem _ (List.getElem_mem a));have h3:=ih (X6M hs) k a;constructor
    ·intro h4;have:=h3.2 h4;omega
    ·intro h4;omega
theorem X69{l:List Row}{r:Int}(h: ∀s∈l,r<s.1∨s.2.1<r):look l r=none:=by
 induction l with
 | nil=>rfl
 |
  cons s t ih=>
  unfold look;have:=h s (List.mem_cons_self ..);rw[if_neg (by omega)];exact ih fun x hx=>h x (List.mem_cons_of_mem _ hx)
theorem X80{l:List Row}{r v:Int}(h:look l r=some v): ∃s∈l,s.1≤r∧r≤s.2.1∧s.2.2=v:=by
 induction l with
 | nil=>cases h
 |
  cons s t ih=>
  unfold look at h
  split at h
  ·rename_i hh;exact⟨s,List.mem_cons_self ..,hh.1,hh.2,by simpa using h⟩
  ·obtain⟨x,hx,h⟩:=ih h;exact⟨x,List.mem_cons_of_mem _ hx,h⟩
theorem XbW{l:List Row}(hs:Sorted l)(r:Int)(hp:pos l r<l.length)(h:l[pos l r].1≤r):look l r=some l[pos l r].2.2:=by
 induction l with
 | nil=>simp at hp
 |
  cons s t ih=>
  unfold look;by_cases h1:s.2.1<r
  ·have e:pos (s::t) r=pos t r+1:=by rw[pos,if_pos h1]
   rw[if_neg (by omega)];have a:pos t r<t.length:=by rw[e] at hp;simpa using hp
   have e2:(s::t)[pos (s::t) r]'hp=t[pos t r]'a:=by simp only[e,List.getElem_cons_succ]
   rw[e2] at h ⊢;exact ih (X6M hs) a h
  ·have e:pos (s::t) r=0:=by rw[pos,if_neg h1]
   have e2:(s::t)[pos (s::t) r]'hp=s:=by simp only[e,List.getElem_cons_zero]
   rw[e2] at h ⊢;rw[if_pos ⟨h,by omega⟩]
theorem X8M{l:List Row}(hs:Sorted l)(r:Int)(h: ∀hp:pos l r<l.length,r<l[pos l r].1):look l r=none:=by
 refine X69 fun s a=>?_;obtain⟨k,hk,rfl⟩:=List.mem_iff_getElem.1 a;by_cases h1:k<pos l r
 ·exact .inr ((X57 hs r k hk).2 h1)
 ·have hp:pos l r<l.length:=by omega
  have h2:=h hp;rcases Nat.eq_or_lt_of_le (Nat.le_of_not_lt h1) with h3 | h3
  ·left;simp only[h3] at h2;exact h2
  ·left;have h4:=List.pairwise_iff_getElem.1 hs.2 _ _ hp hk h3;have h5:=hs.1 _ (List.getElem_mem hp);omega
theorem Xjb{l:List Row}(hs:Sorted l){r v:Int}(h:look l r=some v): ∃hp:pos l r<l.length,l[pos l r].2.2=v:=by
 by_cases hp:pos l r<l.length
 ·by_cases h1:l[pos l r].1≤r
  ·rw[XbW hs r hp h1] at h;exact⟨hp,by simpa using h⟩
  ·rw[X8M hs r (fun _=>by omega)] at h;cases h
 ·rw[X8M hs r (fun h=>absurd h hp)] at h;cases h
def classes:List Row:= [
 (0x0300,0x0314,230),(0x0315,0x0315,232),(0x0316,0x0319,220),(0x031A,0x031A,232),
 (0x031B,0x031B,216),(0x031C,0x0320,220),(0x0321,0x0322,202),(0x0323,0x0326,220),
 (0x0327,0x0328,202),(0x0329,0x0333,220),(0x0334,0x0338,1),(0x0339,0x033C,220),
 (0x033D,0x0344,230),(0x0345,0x0345,240),(0x0346,0x0346,230),(0x0347,0x0349,220),
 (0x034A,0x034C,230),(0x034D,0x034E,220),(0x0350,0x0352,230),(0x0353,0x0356,220),
 (0x0357,0x0357,230),(0x0358,0x0358,232),(0x0359,0x035A,220),(0x035B,0x035B,230),
 (0x035C,0x035C,233),(0x035D,0x035E,234),(0x035F,0x035F,233),(0x0360,0x0361,234),
 (0x0362,0x0362,233),(0x0363,0x036F,230),(0x064B,0x064B,27),(0x064C,0x064C,28),
 (0x064D,0x064D,29),(0x064E,0x064E,30),(0x064F,0x064F,31),(0x0650,0x0650,32),
 (0x0651,0x0651,33),(0x0652,0x0652,34),(0x093C,0x093C,7),(0x094D,0x094D,9),
 (0x20D0,0x20D1,230),(0x3099,0x309A,8)]
def kinds:List Row:= [
 (0x0000,0x0009,3),(0x000A,0x000A,2),(0x000B,0x000C,3),(0x000D,0x000D,1),
 (0x000E,0x001F,3),(0x007F,0x009F,3),(0x00A9,0x00A9,14),(0x00AD,0x00AD,3),
 (0x00AE,0x00AE,14),(0x0300,0x036F,4),(0x0600,0x0605,7),(0x061C,0x061C,3),
 (0x064B,0x065F,4),(0x06DD,0x06DD,7),(0x0903,0x0903,8),(0x093B,0x093B,8),
 (0x093C,0x093C,4),(0x093E,0x0940,8),(0x0949,0x094C,8),(0x094D,0x094D,4),
 (0x1100,0x115F,9),(0x1160,0x11A7,10),(0x11A8,0x11FF,11),(0x200B,0x200B,3),
 (0x200C,0x200C,4),(0x200D,0x200D,5),(0x200E,0x200F,3),(0x2028,0x202E,3),
 (0x203C,0x203C,14),(0x2049,0x2049,14),(0x2060,0x206F,3),(0x20D0,0x20F0,4),
 (0x2122,0x2122,14),(0x2139,0x2139,14),(0x2194,0x2199,14),(0x231A,0x231B,14),
 (0x2600,0x2604,14),(0x2611,0x2611,14),(0x2614,0x2615,14),(0x263A,0x263A,14),
 (0x2665,0x2665,14),(0x26A1,0x26A1,14),(0x2705,0x2705,14),(0x2764,0x2764,14),
 (0x3099,0x309A,4),(0xFE00,0xFE0F,4),(0xFEFF,0xFEFF,3),(0x1F1E6,0x1F1FF,6),
 (0x1F300,0x1F3FA,14),(0x1F3FB,0x1F3FF,4),(0x1F400,0x1F64F,14),(0x1F680,0x1F6FF,14),
 (0x1F900,0x1F9FF,14)]
def dropped:List Row:= [
 (0x00AD,0x00AD,0),(0x034F,0x034F,0),(0x061C,0x061C,0),(0x115F,0x1160,0),
 (0x17B4,0x17B5,0),(0x180B,0x180F,0),(0x200B,0x200F,0),(0x202A,0x202E,0),
 (0x2060,0x206F,0),(0x3164,0x3164,0),(0xFE00,0xFE0F,0),(0xFEFF,0xFEFF,0),
 (0xFFA0,0xFFA0,0),(0xFFF0,0xFFF8,0),(0xE0000,0xE0FFF,0)]
theorem XvN:Sorted classes:=by decide+kernel
theorem Xk4:Sorted kinds:=by decide+kernel
theorem XvO:Sorted dropped:=by decide+kernel
def cccI(r:Int):Int:=(look classes r).getD 0
def kndI(r:Int):Int:=(look kinds r).getD 0
def gcbI(r:Int):Int:=if 0xAC00≤r∧r≤0xD7A3 then (if (r - 0xAC00) % 28=0 then 12 else 13) else kndI r
def drpB(r:Int):Bool:=(look dropped r).isSome
def mrkB(r:Int):Bool:=decide (0<cccI r)
theorem Xk5{l:List Row}(P:Int→Prop)(h0:P 0)(h: ∀s∈l,P s.2.2)(r:Int):P ((look l r).getD 0):=by
 cases e:look l r with
 | none=>exact h0
 |
  some v=>
  obtain⟨s,hs,_,_,rfl⟩:=X80 e;exact h s hs
theorem Xq6(r:Int):0≤cccI r∧cccI r≤240:=Xk5 (fun v=>0≤v∧v≤240) (by decide) (by decide+kernel) r
theorem Xq7(r:Int):0≤kndI r∧kndI r≤14:=Xk5 (fun v=>0≤v∧v≤14) (by decide) (by decide+kernel) r
theorem Xq8(r:Int):0≤gcbI r∧gcbI r≤14:=by
 unfold gcbI;have:=Xq7 r
 split
 ·split <;> decide
 ·exact this
theorem Xel{r:Int}(h: ∀s∈classes,r<s.1∨s.2.1<r):cccI r=0:=by unfold cccI;rw[X69 h];rfl
theorem Xk6{r:Int}(h: ∀s∈dropped,r<s.1∨s.2.1<r):drpB r=false:=by unfold drpB;rw[X69 h];rfl
theorem syl{r:Int}(h1:0xAC00≤r)(h2:r≤0xD7A3):cccI r=0∧drpB r=false∧gcbI r=if (r - 0xAC00) % 28=0 then 12 else 13:=by
 have c1: ∀s∈classes,s.2.1<0xAC00∨0xD7A3<s.1:=by decide+kernel
 have c3: ∀s∈dropped,s.2.1<0xAC00∨0xD7A3<s.1:=by decide+kernel
 refine⟨Xel fun s hs=>by have:=c1 s hs;omega,Xk6 fun s hs=>by have:=c3 s hs;omega,?_⟩;unfold gcbI;rw[if_pos ⟨h1,h2⟩]
end Go.Proofs.YtkofnpkopbnocaaGreatDoor.Prp
namespace Go.Proofs.YtkofnpkopbnocaaGreatDoor.Lk
def look:List (Int × List Int)→Int→Option (List Int)
 | [],_=>none
 | s::t,r=>if s.1=r then some s.2 else look t r
theorem X80{l:List (Int × List Int)}{r:Int}{p:List Int}(h:look l r=some p):(r,p)∈l:=by
 induction l with
 | nil=>cases h
 |
  cons s t ih=>
  unfold look at h
  split at h
  ·rename_i hh;have:p=s.2:=by simpa using h.symm
   subst this;subst hh;exact List.mem_cons_self ..
  ·exact List.mem_cons_of_mem _ (ih h)
theorem X69{l:List (Int × List Int)}{r:Int}(h: ∀s∈l,s.1≠r):look l r=none:=by
 induction l with
 | nil=>rfl
 |
  cons s t ih=>
  unfold look;rw[if_neg (h s (List.mem_cons_self ..))];exact ih fun x hx=>h x (List.mem_cons_of_mem _ hx)
def digit(c:UInt8):Int:=if 65≤c.toNat then (c.toNat:Int) - 65+10 else (c.toNat:Int) - 48
def scan:List UInt8→List Int→Int→Int→Option (List Int)
 | [],_,_,_=>none
 |
  c::t,l,v,r=>
  if c.toNat=61∨c.toNat=44 then scan t (l++ [v]) 0 r
  else if c.toNat=32 then (if (l++ [v]).headD 0=r then some (l++ [v]).tail else scan t [] 0 r)
  else scan t l (v *16+digit c) r
def rows:List UInt8→List Int→Int→List (Int × List Int)
 | [],_,_=> []
 |
  c::t,l,v=>
  if c.toNat=61∨c.toNat=44 then rows t (l++ [v]) 0
  else if c.toNat=32 then ((l++ [v]).headD 0,(l++ [v]).tail)::rows t [] 0
  else rows t l (v *16+digit c)
theorem XlC(bs:List UInt8)(l:List Int)(v r:Int):scan bs l v r=look (rows bs l v) r:=by
 induction bs generalizing l v with
 | nil=>rfl
 |
  cons c t ih=>
  unfold scan rows
  split
  ·exact ih _ _
  ·split
   ·unfold look
    split
    ·rfl
    ·exact ih _ _
   ·exact ih _ _
def pos:List (Int × List Int)→Int→Nat
 | [],_=>0
 | s::t,r=>if s.1<r then pos t r+1 else 0
def upB:List (Int × List Int)→Bool
 | a::b::t=>decide (a.1<b.1) && upB (b::t)
 | _=>true
theorem X7u{s:Int × List Int}{l:List (Int × List Int)}(h:upB (s::l)=true):upB l=true:=by
 cases l with
 | nil=>rfl
 | cons b t=>simp only[upB,Bool.and_eq_true] at h;exact h.2
theorem Xdv{s:Int × List Int}{l:List (Int × List Int)}(h:upB (s::l)=true): ∀x∈l,s.1<x.1:=by
 induction l generalizing s with
 | nil=>intro x hx;cases hx
 |
  cons b t ih=>
  intro x hx;simp only[upB,Bool.and_eq_true,decide_eq_true_eq] at h;rcases List.mem_cons.1 hx with rfl | hx
  ·exact h.1
  ·have:=ih h.2 x hx;omega
theorem XbV{l:List (Int × List Int)}(h:upB l=true):l.Pairwise (fun a b=>a.1<b.1):=by
 induction l with
 | nil=>exact .nil
 | cons s t ih=>exact .cons (Xdv h) (ih (X7u h))
theorem Xtc(l:List (Int × List Int))(r:Int):pos l r≤l.length:=by
 induction l with
 | nil=>exact Nat.le_refl _
 | cons s t ih=>unfold pos;split <;> simp <;> omega
theorem X57{l:List (Int × List Int)}(hs:upB l=true)(r:Int)(k:Nat)(hk:k<l.length):l[k].1<r↔k<pos l r:=by
 induction l generalizing k with
 | nil=>simp at hk
 |
  cons s t ih=>
  unfold pos;cases k with
  | zero=>simp only[List.getElem_cons_zero];split <;> simp_all
  |
   succ k=>
   simp only[List.getElem_cons_succ];have a:k<t.length:=by simpa using hk
   rw[ih (X7u hs) k a]
   split
   ·omega
   ·rename_i h;have h1:=Xdv hs t[k] (List.getElem_mem a);have h3:=ih (X7u hs) k a;constructor
    ·intro h4;have:=h3.2 h4;omega
    ·intro h4;omega
theorem XbW{l:List (Int × List Int)}(hs:upB l=true)(r:Int)(hp:pos l r<l.length)(h:l[pos l r].1=r):look l r=some l[pos l r].2:=by
 induction l with
 | nil=>simp at hp
 |
  cons s t ih=>
  unfold look;by_cases h1:s.1<r
  ·have e:pos (s::t) r=pos t r+1:=by rw[pos,if_pos h1]
   rw[if_neg (by omega)];have a:pos t r<t.length:=by rw[e] at hp;simpa using hp
   have e2:(s::t)[pos (s::t) r]'hp=t[pos t r]'a:=by simp only[e,List.getElem_cons_succ]
   rw[e2] at h ⊢;exact ih (X7u hs) a h
  ·have e:pos (s::t) r=0:=by rw[pos,if_neg h1]
   have e2:(s::t)[pos (s::t) r]'hp=s:=by simp only[e,List.getElem_cons_zero]
   rw[e2] at h ⊢;rw[if_pos h]
theorem X8M{l:List (Int × List Int)}(hs:upB l=true)(r:Int)(h: ∀hp:pos l r<l.length,l[pos l r].1≠r):look l r=none:=by
 refine X69 fun s a e=>?_;obtain⟨k,hk,rfl⟩:=List.mem_iff_getElem.1 a;by_cases h1:k<pos l r
 ·have:=(X57 hs r k hk).2 h1;omega
 ·have hp:pos l r<l.length:=by omega
  have h2:=h hp;rcases Nat.eq_or_lt_of_le (Nat.le_of_not_lt h1) with h3 | h3
  ·simp only[h3] at h2;exact h2 e
  ·have h4:=List.pairwise_iff_getElem.1 (XbV hs) _ _ hp hk h3;have h5: ¬l[pos l r].1<r:=fun h=>Nat.lt_irrefl _ ((X57 hs r _ hp).1 h);omega
theorem Xjb{l:List (Int × List Int)}(hs:upB l=true){r:Int}{v:List Int}(h:look l r=some v): ∃hp:pos l r<l.length,l[pos l r].1=r∧l[pos l r].2=v:=by
 by_cases hp:pos l r<l.length
 ·by_cases h1:l[pos l r].1=r
  ·rw[XbW hs r hp h1] at h;exact⟨hp,h1,by simpa using h⟩
  ·rw[X8M hs r (fun _=>h1)] at h;cases h
 ·rw[X8M hs r (fun h=>absurd h hp)] at h;cases h
def bdd:List UInt8→Int→Nat→Bool
 | [],_,_=>true
 |
  c::t,v,k=>
  decide (0≤v) && decide (v<1048576) &&
  (if c.toNat=61∨c.toNat=44 then bdd t 0 (k+1)
  else if c.toNat=32 then decide (1≤k) && bdd t 0 0
  else bdd t (v *16+digit c) k)
theorem XDv{c:UInt8}{t:List UInt8}{l:List Int}{v r:Int}(h:c.toNat=61∨c.toNat=44):scan (c::t) l v r=scan t (l++ [v]) 0 r:=by rw[scan,if_pos h]
theorem XEi{c:UInt8}{t:List UInt8}{l:List Int}{v r:Int}(h:c.toNat=32):scan (c::t) l v r=if (l++ [v]).headD 0=r then some (l++ [v]).tail else scan t [] 0 r:=by
 rw[scan,if_neg (by omega),if_pos h]
theorem XDw{c:UInt8}{t:List UInt8}{l:List Int}{v r:Int}(h1: ¬(c.toNat=61∨c.toNat=44))(h2: ¬c.toNat=32):scan (c::t) l v r=scan t l (v *16+digit c) r:=by
 rw[scan,if_neg h1,if_neg h2]
theorem bdd_v{c:UInt8}{t:List UInt8}{v:Int}{k:Nat}(h:bdd (c::t) v k=true):0≤v∧v<1048576:=by
 rw[bdd] at h;simp only[Bool.and_eq_true,decide_eq_true_eq] at h;exact h.1
theorem XEj{c:UInt8}{t:List UInt8}{v:Int}{k:Nat}(h:bdd (c::t) v k=true)(hc:c.toNat=61∨c.toNat=44):bdd t 0 (k+1)=true:=by
 rw[bdd,if_pos hc] at h;simp only[Bool.and_eq_true] at h;exact h.2
theorem XEW{c:UInt8}{t:List UInt8}{v:Int}{k:Nat}(h:bdd (c::t) v k=true)(hc:c.toNat=32):1≤k∧bdd t 0 0=true:=by
 rw[bdd,if_neg (by omega),if_pos hc] at h;simp only[Bool.and_eq_true,decide_eq_true_eq] at h;exact h.2
theorem XEk{c:UInt8}{t:List UInt8}{v:Int}{k:Nat}(h:bdd (c::t) v k=true)(h1: ¬(c.toNat=61∨c.toNat=44))(h2: ¬c.toNat=32):bdd t (v *16+digit c) k=true:=by
 rw[bdd,if_neg h1,if_neg h2] at h;simp only[Bool.and_eq_true] at h;exact h.2
theorem Xx5(c:UInt8): -48≤digit c∧digit c≤200:=by
 have:=c.toNat_lt;unfold digit
 split <;> omega
end Go.Proofs.YtkofnpkopbnocaaGreatDoor.Lk
namespace Go.Proofs.YtkofnpkopbnocaaGreatDoor.Dcp
def T:List (Int × List Int):= [
 (160,[32]),(168,[32,776]),(170,[97]),(175,[32,772]),(178,[50]),(179,[51]),(180,[32,769]),(181,[956]),(184,[32,807]),(185,[49]),(186,[111]),
 (188,[49,8260,52]),(189,[49,8260,50]),(190,[51,8260,52]),(192,[65,768]),(193,[65,769]),(194,[65,770]),(195,[65,771]),(196,[65,776]),
 (197,[65,778]),(199,[67,807]),(200,[69,768]),(201,[69,769]),(202,[69,770]),(203,[69,776]),(204,[73,768]),(205,[73,769]),(206,[73,770]),
 (207,[73,776]),(209,[78,771]),(210,[79,768]),(211,[79,769]),(212,[79,770]),(213,[79,771]),(214,[79,776]),(217,[85,768]),(218,[85,769]),
 (219,[85,770]),(220,[85,776]),(221,[89,769]),(224,[97,768]),(225,[97,769]),(226,[97,770]),(227,[97,771]),(228,[97,776]),(229,[97,778]),
 (231,[99,807]),(232,[101,768]),(233,[101,769]),(234,[101,770]),(235,[101,776]),(236,[105,768]),(237,[105,769]),(238,[105,770]),
 (239,[105,776]),(241,[110,771]),(242,[111,768]),(243,[111,769]),(244,[111,770]),(245,[111,771]),(246,[111,776]),(249,[117,768]),
 (250,[117,769]),(251,[117,770]),(252,[117,776]),(253,[121,769]),(255,[121,776]),(256,[65,772]),(257,[97,772]),(258,[65,774]),(259,[97,774]),
 (260,[65,808]),(261,[97,808]),(262,[67,769]),(263,[99,769]),(264,[67,770]),(265,[99,770]),(266,[67,775]),(267,[99,775]),(268,[67,780]),
 (269,[99,780]),(270,[68,780]),(271,[100,780]),(274,[69,772]),(275,[101,772]),(276,[69,774]),(277,[101,774]),(278,[69,775]),(279,[101,775]),
 (280,[69,808]),(281,[101,808]),(282,[69,780]),(283,[101,780]),(284,[71,770]),(285,[103,770]),(286,[71,774]),(287,[103,774]),(288,[71,775]),
 (289,[103,775]),(290,[71,807]),(291,[103,807]),(292,[72,770]),(293,[104,770]),(296,[73,771]),(297,[105,771]),(298,[73,772]),(299,[105,772]),
 (300,[73,774]),(301,[105,774]),(302,[73,808]),(303,[105,808]),(304,[73,775]),(306,[73,74]),(307,[105,106]),(308,[74,770]),(309,[106,770]),
 (310,[75,807]),(311,[107,807]),(313,[76,769]),(314,[108,769]),(315,[76,807]),(316,[108,807]),(317,[76,780]),(318,[108,780]),(319,[76,183]),
 (320,[108,183]),(323,[78,769]),(324,[110,769]),(325,[78,807]),(326,[110,807]),(327,[78,780]),(328,[110,780]),(329,[700,110]),(332,[79,772]),
 (333,[111,772]),(334,[79,774]),(335,[111,774]),(336,[79,779]),(337,[111,779]),(340,[82,769]),(341,[114,769]),(342,[82,807]),(343,[114,807]),
 (344,[82,780]),(345,[114,780]),(346,[83,769]),(347,[115,769]),(348,[83,770]),(349,[115,770]),(350,[83,807]),(351,[115,807]),(352,[83,780]),
 (353,[115,780]),(354,[84,807]),(355,[116,807]),(356,[84,780]),(357,[116,780]),(360,[85,771]),(361,[117,771]),(362,[85,772]),(363,[117,772]),
 (364,[85,774]),(365,[117,774]),(366,[85,778]),(367,[117,778]),(368,[85,779]),(369,[117,779]),(370,[85,808]),(371,[117,808]),(372,[87,770]),
 (373,[119,770]),(374,[89,770]),(375,[121,770]),(376,[89,776]),(377,[90,769]),(378,[122,769]),(379,[90,775]),(380,[122,775]),(381,[90,780]),
 (382,[122,780]),(383,[115]),(416,[79,795]),(417,[111,795]),(431,[85,795]),(432,[117,795]),(902,[913,769]),(903,[183]),(904,[917,769]),
 (905,[919,769]),(906,[921,769]),(908,[927,769]),(910,[933,769]),(911,[937,769]),(912,[953,776,769]),(938,[921,776]),(939,[933,776]),
 (940,[945,769]),(941,[949,769]),(942,[951,769]),(943,[953,769]),(944,[965,776,769]),(970,[953,776]),(971,[965,776]),(972,[959,769]),
 (973,[965,769]),(974,[969,769]),(2392,[2325,2364]),(2393,[2326,2364]),(2394,[2327,2364]),(7840,[65,803]),(7841,[97,803]),(7842,[65,777]),
 (7843,[97,777]),(7844,[65,770,769]),(7845,[97,770,769]),(7846,[65,770,768]),(7847,[97,770,768]),(7848,[65,770,777]),(7849,[97,770,777]),
 (7850,[65,770,771]),(7851,[97,770,771]),(7852,[65,803,770]),(7853,[97,803,770]),(7854,[65,774,769]),(7855,[97,774,769]),(7856,[65,774,768]),
 (7857,[97,774,768]),(7858,[65,774,777]),(7859,[97,774,777]),(7860,[65,774,771]),(7861,[97,774,771]),(7862,[65,803,774]),(7863,[97,803,774]),
 (7864,[69,803]),(7865,[101,803]),(7866,[69,777]),(7867,[101,777]),(7868,[69,771]),(7869,[101,771]),(7870,[69,770,769]),(7871,[101,770,769]),
 (7872,[69,770,768]),(7873,[101,770,768]),(7874,[69,770,777]),(7875,[101,770,777]),(7876,[69,770,771]),(7877,[101,770,771]),
 (7878,[69,803,770]),(7879,[101,803,770]),(7880,[73,777]),(7881,[105,777]),(7882,[73,803]),(7883,[105,803]),(7884,[79,803]),(7885,[111,803]),
 (7886,[79,777]),(7887,[111,777]),(7888,[79,770,769]),(7889,[111,770,769]),(7890,[79,770,768]),(7891,[111,770,768]),(7892,[79,770,777]),
 (7893,[111,770,777]),(7894,[79,770,771]),(7895,[111,770,771]),(7896,[79,803,770]),(7897,[111,803,770]),(7898,[79,795,769]),
 (7899,[111,795,769]),(7900,[79,795,768]),(7901,[111,795,768]),(7902,[79,795,777]),(7903,[111,795,777]),(7904,[79,795,771]),
 (7905,[111,795,771]),(7906,[79,795,803]),(7907,[111,795,803]),(7908,[85,803]),(7909,[117,803]),(7910,[85,777]),(7911,[117,777]),
 (7912,[85,795,769]),(7913,[117,795,769]),(7914,[85,795,768]),(7915,[117,795,768]),(7916,[85,795,777]),(7917,[117,795,777]),
 (7918,[85,795,771]),(7919,[117,795,771]),(7920,[85,795,803]),(7921,[117,795,803]),(7922,[89,768]),(7923,[121,768]),(7924,[89,803]),
 (7925,[121,803]),(7926,[89,777]),(7927,[121,777]),(7928,[89,771]),(7929,[121,771]),(8486,[937]),(8488,[90]),(8490,[75]),(8491,[65,778]),
 (8544,[73]),(8545,[73,73]),(8546,[73,73,73]),(8547,[73,86]),(8548,[86]),(8549,[86,73]),(8550,[86,73,73]),(8551,[86,73,73,73]),
 (8552,[73,88]),(8553,[88]),(8554,[88,73]),(8555,[88,73,73]),(8556,[76]),(8557,[67]),(8558,[68]),(8559,[77]),(8560,[105]),(8561,[105,105]),
 (8562,[105,105,105]),(8563,[105,118]),(8564,[118]),(8565,[118,105]),(8566,[118,105,105]),(8567,[118,105,105,105]),(8568,[105,120]),
 (8569,[120]),(8570,[120,105]),(8571,[120,105,105]),(8572,[108]),(8573,[99]),(8574,[100]),(8575,[109]),(12364,[12363,12441]),(12366,[12365,12441]),
 (12368,[12367,12441]),(12370,[12369,12441]),(12372,[12371,12441]),(12374,[12373,12441]),(12376,[12375,12441]),(12378,[12377,12441]),
 (12380,[12379,12441]),(12382,[12381,12441]),(12384,[12383,12441]),(12386,[12385,12441]),(12389,[12388,12441]),(12391,[12390,12441]),
 (12393,[12392,12441]),(12400,[12399,12441]),(12460,[12459,12441]),(12462,[12461,12441]),(12464,[12463,12441]),(12466,[12465,12441]),
 (12468,[12467,12441]),(12470,[12469,12441]),(12472,[12471,12441]),(12474,[12473,12441]),(12476,[12475,12441]),(12478,[12477,12441]),
 (12480,[12479,12441]),(12482,[12481,12441]),(12485,[12484,12441]),(12487,[12486,12441]),(12489,[12488,12441]),(12496,[12495,12441]),
 (64256,[102,102]),(64257,[102,105]),(64258,[102,108]),(64259,[102,102,105]),(64260,[102,102,108]),(64261,[115,116]),(64262,[115,116])]
def sylL(s:Int):List Int:=if s % 28=0 then [0x1100+s / 588,0x1161+s % 588 / 28] else [0x1100+s / 588,0x1161+s % 588 / 28,0x11A7+s % 28]
def fullI(r:Int):List Int:=
 if 0xAC00≤r∧r≤0xD7A3 then sylL (r - 0xAC00) else if 0xFF01≤r∧r≤0xFF5E then [r - 0xFEE0] else (Lk.look T r).getD [r]
theorem X9A{r:Int}(h1: ¬(0xAC00≤r∧r≤0xD7A3))(h2: ¬(0xFF01≤r∧r≤0xFF5E))(h3: ∀s∈T,s.1≠r):fullI r= [r]:=by
 unfold fullI;rw[if_neg h1,if_neg h2,Lk.X69 h3];rfl
theorem XgA: ∀s∈T,160≤s.1∧(s.1<0x300∨0x33F<s.1)∧(s.1<0x1100∨0x11FF<s.1)∧(s.1<0xAC00∨0xD7A3<s.1)∧(s.1<0xFF01∨0xFF5E<s.1):=by decide+kernel
theorem X7j{r:Int}(h:0x1100≤r∧r≤0x11FF):fullI r= [r]:=X9A (by omega) (by omega) fun s hs e=>by have:=XgA s hs;omega
theorem XwB{r:Int}(h:0x1100≤r∧r≤0x11FF):Prp.cccI r=0:=by
 have c: ∀s∈Prp.classes,s.2.1<0x1100∨0x11FF<s.1:=by decide+kernel
 exact Prp.Xel fun s hs=>by have:=c s hs;omega
theorem X38{r:Int}(h:0xAC00≤r∧r≤0xD7A3):fullI r=sylL (r - 0xAC00):=by unfold fullI;rw[if_pos h]
theorem X3o{r:Int}(h:0xFF01≤r∧r≤0xFF5E):fullI r= [r - 0xFEE0]:=by unfold fullI;rw[if_neg (by omega),if_pos h]
theorem Xgh: ∀s∈T,1≤s.2.length∧s.2.length≤4:=by decide+kernel
theorem X1U(r:Int):1≤(fullI r).length∧(fullI r).length≤4:=by
 by_cases h1:0xAC00≤r∧r≤0xD7A3
 ·rw[X38 h1];unfold sylL
  split <;> simp
 by_cases h2:0xFF01≤r∧r≤0xFF5E
 ·rw[X3o h2];simp
 cases e:Lk.look T r with
 |
  none=>
  have h:fullI r= [r]:=by unfold fullI;rw[if_neg h1,if_neg h2,e];rfl
  rw[h];simp
 |
  some p=>
  have h:fullI r=p:=by unfold fullI;rw[if_neg h1,if_neg h2,e];rfl
  rw[h];exact Xgh _ (Lk.X80 e)
theorem X6w{r:Int}(h:0x1100≤r∧r≤0x11FF):Prp.mrkB r=false:=by unfold Prp.mrkB;rw[XwB h];rfl
end Go.Proofs.YtkofnpkopbnocaaGreatDoor.Dcp
namespace Go.Proofs.YtkofnpkopbnocaaGreatDoor.Par
def T:List (Int × Int × Int):= [
 (65,768,192),(65,769,193),(65,770,194),(65,771,195),(65,772,256),(65,774,258),(65,776,196),(65,777,7842),(65,778,197),(65,803,7840),
 (65,808,260),(67,769,262),(67,770,264),(67,775,266),(67,780,268),(67,807,199),(68,780,270),(69,768,200),(69,769,201),(69,770,202),
 (69,771,7868),(69,772,274),(69,774,276),(69,775,278),(69,776,203),(69,777,7866),(69,780,282),(69,803,7864),(69,808,280),(71,770,284),
 (71,774,286),(71,775,288),(71,807,290),(72,770,292),(73,768,204),(73,769,205),(73,770,206),(73,771,296),(73,772,298),(73,774,300),
 (73,775,304),(73,776,207),(73,777,7880),(73,803,7882),(73,808,302),(74,770,308),(75,807,310),(76,769,313),(76,780,317),(76,807,315),
 (78,769,323),(78,771,209),(78,780,327),(78,807,325),(79,768,210),(79,769,211),(79,770,212),(79,771,213),(79,772,332),(79,774,334),
 (79,776,214),(79,777,7886),(79,779,336),(79,795,416),(79,803,7884),(82,769,340),(82,780,344),(82,807,342),(83,769,346),(83,770,348),
 (83,780,352),(83,807,350),(84,780,356),(84,807,354),(85,768,217),(85,769,218),(85,770,219),(85,771,360),(85,772,362),(85,774,364),
 (85,776,220),(85,777,7910),(85,778,366),(85,779,368),(85,795,431),(85,803,7908),(85,808,370),(87,770,372),(89,768,7922),(89,769,221),
 (89,770,374),(89,771,7928),(89,776,376),(89,777,7926),(89,803,7924),(90,769,377),(90,775,379),(90,780,381),(97,768,224),(97,769,225),
 (97,770,226),(97,771,227),(97,772,257),(97,774,259),(97,776,228),(97,777,7843),(97,778,229),(97,803,7841),(97,808,261),(99,769,263),
 (99,770,265),(99,775,267),(99,780,269),(99,807,231),(100,780,271),(101,768,232),(101,769,233),(101,770,234),(101,771,7869),(101,772,275),
 (101,774,277),(101,775,279),(101,776,235),(101,777,7867),(101,780,283),(101,803,7865),(101,808,281),(103,770,285),(103,774,287),
 (103,775,289),(103,807,291),(104,770,293),(105,768,236),(105,769,237),(105,770,238),(105,771,297),(105,772,299),(105,774,301),
 (105,776,239),(105,777,7881),(105,803,7883),(105,808,303),(106,770,309),(107,807,311),(108,769,314),(108,780,318),(108,807,316),
 (110,769,324),(110,771,241),(110,780,328),(110,807,326),(111,768,242),(111,769,243),(111,770,244),(111,771,245),(111,772,333),
 (111,774,335),(111,776,246),(111,777,7887),(111,779,337),(111,795,417),(111,803,7885),(114,769,341),(114,780,345),(114,807,343),
 (115,769,347),(115,770,349),(115,780,353),(115,807,351),(116,780,357),(116,807,355),(117,768,249),(117,769,250),(117,770,251),
 (117,771,361),(117,772,363),(117,774,365),(117,776,252),(117,777,7911),(117,778,367),(117,779,369),(117,795,432),(117,803,7909),
 (117,808,371),(119,770,373),(121,768,7923),(121,769,253),(121,770,375),(121,771,7929),(121,776,255),(121,777,7927),(121,803,7925),
 (122,769,378),(122,775,380),(122,780,382),(194,768,7846),(194,769,7844),(194,771,7850),(194,777,7848),(202,768,7872),(202,769,7870),
 (202,771,7876),(202,777,7874),(212,768,7890),(212,769,7888),(212,771,7894),(212,777,7892),(226,768,7847),(226,769,7845),(226,771,7851),
 (226,777,7849),(234,768,7873),(234,769,7871),(234,771,7877),(234,777,7875),(244,768,7891),(244,769,7889),(244,771,7895),(244,777,7893),
 (258,768,7856),(258,769,7854),(258,771,7860),(258,777,7858),(259,768,7857),(259,769,7855),(259,771,7861),(259,777,7859),(416,768,7900),
 (416,769,7898),(416,771,7904),(416,777,7902),(416,803,7906),(417,768,7901),(417,769,7899),(417,771,7905),(417,777,7903),(417,803,7907),
 (431,768,7914),(431,769,7912),(431,771,7918),(431,777,7916),(431,803,7920),(432,768,7915),(432,769,7913),(432,771,7919),(432,777,7917),
 (432,803,7921),(913,769,902),(917,769,904),(919,769,905),(921,769,906),(921,776,938),(927,769,908),(933,769,910),(933,776,939),
 (937,769,911),(945,769,940),(949,769,941),(951,769,942),(953,769,943),(953,776,970),(959,769,972),(965,769,973),(965,776,971),
 (969,769,974),(970,769,912),(971,769,944),(7840,770,7852),(7840,774,7862),(7841,770,7853),(7841,774,7863),(7864,770,7878),(7865,770,7879),
 (7884,770,7896),(7885,770,7897),(12363,12441,12364),(12365,12441,12366),(12367,12441,12368),(12369,12441,12370),(12371,12441,12372),
 (12373,12441,12374),(12375,12441,12376),(12377,12441,12378),(12379,12441,12380),(12381,12441,12382),(12383,12441,12384),(12385,12441,12386),
 (12388,12441,12389),(12390,12441,12391),(12392,12441,12393),(12399,12441,12400),(12459,12441,12460),(12461,12441,12462),(12463,12441,12464),
 (12465,12441,12466),(12467,12441,12468),(12469,12441,12470),(12471,12441,12472),(12473,12441,12474),(12475,12441,12476),(12477,12441,12478),
 (12479,12441,12480),(12481,12441,12482),(12484,12441,12485),(12486,12441,12487),(12488,12441,12489),(12495,12441,12496)]
def lookJ:List (Int × Int × Int)→Int→Int→Option Int
 | [],_,_=>none
 | s::t,a,b=>if s.1=a∧s.2.1=b then some s.2.2 else lookJ t a b
theorem X7B{l:List (Int × Int × Int)}{a b x:Int}(h:lookJ l a b=some x):(a,b,x)∈l:=by
 induction l with
 | nil=>cases h
 |
  cons s t ih=>
  unfold lookJ at h
  split at h
  ·rename_i hh;obtain⟨rfl,rfl⟩:=hh;obtain rfl:x=s.2.2:=by simpa using h.symm
   exact List.mem_cons_self ..
  ·exact List.mem_cons_of_mem _ (ih h)
theorem XpQ{l:List (Int × Int × Int)}{a b:Int}(h: ∀s∈l,¬(s.1=a∧s.2.1=b)):lookJ l a b=none:=by
 induction l with
 | nil=>rfl
 |
  cons s t ih=>
  unfold lookJ;rw[if_neg (h s (List.mem_cons_self ..))];exact ih fun x hx=>h x (List.mem_cons_of_mem _ hx)
theorem Xbu{l:List (Int × Int × Int)}(hp:l.Pairwise (fun s t=>¬(s.1=t.1∧s.2.1=t.2.1))){a b x:Int}(h:(a,b,x)∈l):lookJ l a b=some x:=by
 induction l with
 | nil=>cases h
 |
  cons s t ih=>
  unfold lookJ;rcases List.mem_cons.1 h with rfl | h
  ·rw[if_pos ⟨rfl,rfl⟩]
  ·rw[if_neg ((List.pairwise_cons.1 hp).1 _ h)];exact ih (List.pairwise_cons.1 hp).2 h
def LV(a b:Int):Prop:=0x1100≤a∧a≤0x1112∧0x1161≤b∧b≤0x1175
def LVT(a b:Int):Prop:=0xAC00≤a∧a≤0xD7A3∧(a - 0xAC00) % 28=0∧0x11A8≤b∧b≤0x11C2
def Syl(r:Int):Prop:=0xAC00≤r∧r≤0xD7A3
instance (a b:Int):Decidable (LV a b):=inferInstanceAs (Decidable (_∧_))
instance (a b:Int):Decidable (LVT a b):=inferInstanceAs (Decidable (_∧_))
instance (r:Int):Decidable (Syl r):=inferInstanceAs (Decidable (_∧_))
def joinI(a b:Int):Option Int:=if LV a b then some (0xAC00+((a - 0x1100) *21+(b - 0x1161)) *28) else if LVT a b then some (a+b - 0x11A7) else lookJ T a b
theorem Xk0: ∀s∈T,Dcp.fullI s.2.2=Dcp.fullI s.1++Dcp.fullI s.2.1∧Prp.mrkB s.1=false∧Dcp.fullI s.2.1= [s.2.1]∧Prp.mrkB s.2.1=true∧Dcp.fullI s.2.2≠ [s.2.2]∧Prp.mrkB s.2.2=false:=by decide+kernel
end Go.Proofs.YtkofnpkopbnocaaGreatDoor.Par
namespace Go.Proofs.YtkofnpkopbnocaaGreatDoor.Can
open Prp (mrkB cccI)
def insR(r:Int):List Int→List Int
 | []=> [r]
 | x::t=>if mrkB x=true∧cccI r<cccI x then x::insR r t else r::x::t
def stepR(R:List Int)(r:Int):List Int:=if mrkB r=true then insR r R else r::R
def X2k(l R:List Int):List Int:=l.foldl stepR R
def X0S(l:List Int):List Int:=(X2k l []).reverse
theorem X5O(r:Int):mrkB r=true↔0<cccI r:=by unfold mrkB;simp
theorem Xbm(r:Int):mrkB r=false↔cccI r=0:=by
 have:=(Prp.Xq6 r).1;unfold mrkB;simp;omega
theorem X3V(a b R:List Int):X2k (a++b) R=X2k b (X2k a R):=by simp [X2k,List.foldl_append]
theorem X1X(x:Int)(b R:List Int):X2k (x::b) R=X2k b (stepR R x):=rfl
theorem X5Y(x:Int)(R:List Int):X2k [x] R=stepR R x:=rfl
theorem X9q(r:Int)(R:List Int):(insR r R).length=R.length+1:=by
 induction R with
 | nil=>rfl
 | cons x t ih=>unfold insR;split <;> simp [ih]
theorem XrK(R:List Int)(r:Int):(stepR R r).length=R.length+1:=by
 unfold stepR;split
 ·exact X9q r R
 ·rfl
theorem Xoq(l R:List Int):(X2k l R).length=l.length+R.length:=by
 induction l generalizing R with
 | nil=>simp [X2k]
 | cons x t ih=>rw[X1X,ih,XrK];simp;omega
theorem X1p(l:List Int):(X0S l).length=l.length:=by simp [X0S,Xoq]
def adjR:List Int→Bool
 | a::b::t=> !(mrkB a && mrkB b && decide (cccI a<cccI b)) && adjR (b::t)
 | _=>true
theorem X6p{a:Int}{R:List Int} :adjR (a::R)=true↔(∀b t,R=b::t→mrkB a=true→mrkB b=true→cccI b≤cccI a)∧adjR R=true:=by
 cases R with
 | nil=>simp [adjR]
 |
  cons b t=>
  simp only[adjR,Bool.and_eq_true,Bool.not_eq_true',Bool.and_eq_false_iff,decide_eq_false_iff_not];constructor
  ·rintro ⟨h,h2⟩;refine⟨fun b' t' e ha hb=>?_,h2⟩;obtain⟨rfl,rfl⟩:=List.cons.inj e;rcases h with(h | h) | h
   ·rw[ha] at h;cases h
   ·rw[hb] at h;cases h
   ·omega
  ·rintro ⟨h,h2⟩;refine⟨?_,h2⟩;by_cases ha:mrkB a=true
   ·by_cases hb:mrkB b=true
    ·have:=h b t rfl ha hb;exact .inr (by omega)
    ·exact .inl (.inr (by simpa using hb))
   ·exact .inl (.inl (by simpa using ha))
theorem XmS{a:Int}{R:List Int}(h:adjR (a::R)=true):adjR R=true:=(X6p.1 h).2
theorem XrN(r:Int)(R:List Int): ∃b t,insR r R=b::t∧(b=r∨∃s,R=b::s∧mrkB b=true∧cccI r<cccI b):=by
 cases R with
 | nil=>exact⟨r,[],rfl, .inl rfl⟩
 |
  cons x t=>
  unfold insR
  split
  ·rename_i h;exact⟨x,_,rfl, .inr ⟨t,rfl,h⟩⟩
  ·exact⟨r,_,rfl, .inl rfl⟩
theorem XmT{r:Int}{R:List Int}(h:adjR R=true):adjR (insR r R)=true:=by
 induction R with
 | nil=>rfl
 |
  cons x t ih=>
  unfold insR
  split
  ·rename_i hx;refine X6p.2 ⟨fun b s e _ hb=>?_,ih (XmS h)⟩;obtain⟨b',s',e',a⟩:=XrN r t;rw[e] at e';obtain⟨rfl,rfl⟩:=List.cons.inj e';rcases a with rfl | ⟨u,rfl,c,_⟩
   ·omega
   ·exact(X6p.1 h).1 b u rfl hx.1 c
  ·rename_i hx;refine X6p.2 ⟨fun b s e hr hb=>?_,h⟩;obtain⟨rfl,rfl⟩:=List.cons.inj e;have: ¬cccI r<cccI x:=fun h4=>hx ⟨hb,h4⟩;omega
theorem XrO{R:List Int}{r:Int}(h:adjR R=true):adjR (stepR R r)=true:=by
 unfold stepR
 split
 ·exact XmT h
 ·rename_i hr;exact X6p.2 ⟨fun _ _ _ h1 _=>absurd h1 hr,h⟩
theorem Xos{l R:List Int}(h:adjR R=true):adjR (X2k l R)=true:=by
 induction l generalizing R with
 | nil=>exact h
 | cons x t ih=>exact ih (XrO h)
theorem Xot{R:List Int}{r:Int}(h:adjR (r::R)=true):stepR R r=r::R:=by
 unfold stepR
 split
 ·rename_i hr;cases R with
  | nil=>rfl
  |
   cons x t=>
   unfold insR;rw[if_neg];rintro ⟨h1,h2⟩;have:=(X6p.1 h).1 x t rfl hr h1;omega
 ·rfl
theorem Xf5{a R:List Int}(h:adjR (a++R)=true):adjR R=true:=by
 induction a with
 | nil=>exact h
 | cons x t ih=>exact ih (XmS h)
theorem Xl2{l R:List Int}(h:adjR (l.reverse++R)=true):X2k l R=l.reverse++R:=by
 induction l generalizing R with
 | nil=>rfl
 |
  cons x t ih=>
  rw[List.reverse_cons,List.append_assoc] at h ⊢;change adjR (t.reverse++x::R)=true at h;rw[X1X,Xot (Xf5 h)];exact ih h
def X21(l:List Int):Bool:=adjR l.reverse
theorem X3W(l:List Int):X21 (X0S l)=true:=by
 unfold X21 X0S;rw[List.reverse_reverse];exact Xos rfl
theorem XaK{l:List Int}(h:X21 l=true):X0S l=l:=by
 unfold X21 at h;unfold X0S;rw[Xl2 (by simpa using h)];simp
theorem Xou(l:List Int):X21 l=decide (X0S l=l):=by
 by_cases h:X21 l=true
 ·rw[h,decide_eq_true (XaK h)]
 ·have h':X21 l=false:=by simpa using h
  rw[h',decide_eq_false];intro e;rw[←e,X3W] at h';cases h'
def runB:List Bool→Nat→Nat
 | [],_=>0
 | b::t,n=>max (if b then n+1 else 0) (runB t (if b then n+1 else 0))
def X1D(l:List Int):Nat:=runB (l.map mrkB) 0
end Go.Proofs.YtkofnpkopbnocaaGreatDoor.Can
namespace Go.Proofs.YtkofnpkopbnocaaGreatDoor.Can
open Prp (mrkB cccI)
open Dcp (fullI)
open Par (joinI)
def putR(f:Int→Option Int):List Int→Option (List Int)
 | []=>none
 | x::t=>if mrkB x=true then (putR f t).map (x:: ·) else (f x).map (· ::t)
def X2F(r:Int):List Int→Bool
 | []=>false
 | x::_=>mrkB x && decide (cccI r≤cccI x)
def cstep(R:List Int)(r:Int):List Int:=if X2F r R=true then r::R else (putR (fun h=>joinI h r) R).getD (r::R)
def compR(l R:List Int):List Int:=l.foldl cstep R
def X0s(l:List Int):List Int:=(compR l []).reverse
theorem X5c(a b R:List Int):compR (a++b) R=compR b (compR a R):=by simp [compR,List.foldl_append]
theorem X1f(x:Int)(b R:List Int):compR (x::b) R=compR b (cstep R x):=rfl
theorem T_far: ∀s∈Par.T,(s.2.2<0x1100∨0x11FF<s.2.2)∧s.2.2<0xAC00:=by decide+kernel
theorem X9p{v:Int}(h1:0xAC00≤v)(h2:v≤0xD7A3):mrkB v=false:=(Xbm v).2 (Prp.syl h1 h2).1
theorem X5X{v:Int}(hv:mrkB v=false)(h1:v<0x1100∨0x11FF<v)(x:Int):joinI x v=none:=by
 unfold joinI;rw[if_neg (by unfold Par.LV;omega),if_neg (by unfold Par.LVT;omega)];refine Par.XpQ fun s hs e=>?_;have h:=(Par.Xk0 s hs).2.2.2.1;rw[e.2,hv] at h;cases h
theorem X2P{h r v:Int}(e:joinI h r=some v):mrkB v=false∧mrkB h=false∧fullI v=fullI h++ [r]∧fullI r= [r]∧(∀x,joinI x v=none):=by
 by_cases h1:Par.LV h r
 ·have ev:v=0xAC00+((h - 0x1100) *21+(r - 0x1161)) *28:=by
   unfold joinI at e;rw[if_pos h1] at e;exact(Option.some.inj e).symm
  obtain⟨a1,a2,b1,b2⟩:=h1;have a:0xAC00≤v:=by omega
  have b:v≤0xD7A3:=by omega
  refine⟨X9p a b,Dcp.X6w (by omega),?_,Dcp.X7j (by omega),X5X (X9p a b) (by omega)⟩;rw[Dcp.X38 ⟨a,b⟩,Dcp.X7j (r:=h) (by omega)];unfold Dcp.sylL;rw[if_pos (by omega)];have e1:0x1100+(v - 0xAC00) / 588=h:=by omega
  have e2:0x1161+(v - 0xAC00) % 588 / 28=r:=by omega
  rw[e1,e2];rfl
 by_cases h2:Par.LVT h r
 ·have ev:v=h+r - 0x11A7:=by
   unfold joinI at e;rw[if_neg h1,if_pos h2] at e;exact(Option.some.inj e).symm
  obtain⟨a1,a2,a3,b1,b2⟩:=h2;have a:0xAC00≤v:=by omega
  have b:v≤0xD7A3:=by omega
  refine⟨X9p a b,X9p a1 a2,?_,Dcp.X7j (by omega),X5X (X9p a b) (by omega)⟩;rw[Dcp.X38 ⟨a,b⟩,Dcp.X38 ⟨a1,a2⟩];unfold Dcp.sylL;rw[if_neg (by omega),if_pos a3];have e1:0x1100+(v - 0xAC00) / 588=0x1100+(h - 0xAC00) / 588:=by omega
  have e2:0x1161+(v - 0xAC00) % 588 / 28=0x1161+(h - 0xAC00) % 588 / 28:=by omega
  have e3:0x11A7+(v - 0xAC00) % 28=r:=by omega
  rw[e1,e2,e3];rfl
 ·unfold joinI at e;rw[if_neg h1,if_neg h2] at e;have hm:=Par.X7B e;obtain⟨f1,f2,f3,f4,f5,f6⟩:=Par.Xk0 _ hm;have hf:=T_far _ hm;simp only at f1 f2 f3 f4 f5 f6 hf;refine⟨f6,f2,?_,f3,X5X f6 hf.1⟩;rw[f1,f3]
theorem Xwn{f:Int→Option Int}{R R':List Int}(h:putR f R=some R'):R'.length=R.length:=by
 induction R generalizing R' with
 | nil=>cases h
 |
  cons x t ih=>
  unfold putR at h
  split at h
  ·cases e:putR f t with
   | none=>rw[e] at h;cases h
   | some t'=>rw[e] at h;obtain rfl:=Option.some.inj h;simp [ih e]
  ·cases e:f x with
   | none=>rw[e] at h;cases h
   | some v=>rw[e] at h;obtain rfl:=Option.some.inj h;simp
theorem XrI(R:List Int)(r:Int):(cstep R r).length=R.length∨(cstep R r)=r::R:=by
 unfold cstep
 split
 ·exact .inr rfl
 ·cases e:putR (fun h=>joinI h r) R with
  | none=>exact .inr rfl
  | some R'=>exact .inl (Xwn e)
theorem Xwo(l R:List Int):(compR l R).length≤l.length+R.length:=by
 induction l generalizing R with
 | nil=>simp [compR]
 |
  cons x t ih=>
  rw[X1f];rcases XrI R x with e | e
  ·have h:=ih (cstep R x);rw[e] at h;simp;omega
  ·rw[e];have h:=ih (x::R);simp at h ⊢;omega
theorem X1k(l:List Int):(X0s l).length≤l.length:=by
 have:=Xwo l [];simpa [X0s] using this
def stable:List Int→Prop
 | []=>True
 | r::R=>stable R∧cstep R r=r::R
structure Inv (Q R:List Int):Prop where
 adj:adjR R=true
 sta:stable R
 made:X2k (R.reverse.flatMap fullI) []=Q
 marks: ∀M S,R=M++S→(∀m∈M,mrkB m=true)→(∀m∈M,fullI m= [m])∧(M≠ []→∃q t,Q=q::t∧mrkB q=true∧∀m∈M,cccI m≤cccI q)
end Go.Proofs.YtkofnpkopbnocaaGreatDoor.Can
namespace Go.Proofs.YtkofnpkopbnocaaGreatDoor.Stb
open Go.Sort
abbrev El:=Int × Int × Int × Nat
def KL(x y:El):Prop:=x.2.1<y.2.1∨(x.2.1=y.2.1∧x.2.2.1<y.2.2.1)
def SL(x y:El):Prop:=x.2.1<y.2.1∨(x.2.1=y.2.1∧(x.2.2.1<y.2.2.1∨(x.2.2.1=y.2.2.1∧x.2.2.2<y.2.2.2)))
instance (x y:El):Decidable (KL x y):=by unfold KL;infer_instance
def St(d:Array El)(a b:Nat):Prop:=∀i j,a≤i→i<j→j<b→SL d[i]! d[j]!
end Go.Proofs.YtkofnpkopbnocaaGreatDoor.Stb
namespace Go.Proofs.YtkofnpkopbnocaaGreatDoor.Stb
open Go.Sort
open Prp (mrkB cccI)
open Can (stepR X2k X0S insR adjR X21)
def cnt:List El→Int
 | []=>0
 | x::t=>(if x.2.2.1=0 then 1 else 0)+cnt t
theorem X5K(x:El)(t:List El):cnt (x::t)=(if x.2.2.1=0 then 1 else 0)+cnt t:=rfl
def stepE(R:List El)(r:Int):List El:=(r,cnt R+(if cccI r=0 then 1 else 0),cccI r,R.length)::R
def X4y(l:List Int)(R:List El):List El:=l.foldl stepE R
def X93(l:List Int):List El:=(X4y l []).reverse
theorem Xkp(l:List Int)(r:Int)(R:List El):X4y (l++ [r]) R=stepE (X4y l R) r:=by simp [X4y,List.foldl_append]
theorem XeB(l:List Int)(R:List El):(X4y l R).length=l.length+R.length:=by
 induction l generalizing R with
 | nil=>simp [X4y]
 |
  cons x t ih=>
  show (X4y t (stepE R x)).length=_
  rw[ih];simp [stepE];omega
theorem XeC(l:List Int):(X93 l).length=l.length:=by simp [X93,XeB]
def insE(e:El):List El→List El
 | []=> [e]
 | y::t=>if mrkB y.1=true∧e.2.2.1<y.2.2.1 then y::insE e t else e::y::t
theorem X8X(e:El)(he:e.2.2.1≠0): ∀R:List El,cnt (insE e R)=cnt R
 | []=>by simp [insE,cnt,he]
 |
  y::t=>by
  unfold insE
  split
  ·rw[X5K,X5K,X8X e he t]
  ·simp [X5K,he]
end Go.Proofs.YtkofnpkopbnocaaGreatDoor.Stb
