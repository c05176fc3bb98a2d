import Derived.Test.YtkofnpkopbnocaaGreatDoorPrP
import Derived.Deep.LoopGhost
import Derived.Deep.DeepCutAuto
import Derived.Test.YtkofnpkopbnocaaGreatDoorMatP
import Derived.Test.YtkofnpkopbnocaaGreatDoorDeRP
set_option linter.unusedSimpArgs false
set_option linter.unusedVariables false
set_option maxRecDepth 100000
set_option maxHeartbeats 1600000
namespace Go.Proofs.YtkofnpkopbnocaaGreatDoor
open Go.RowKit Go.Lib
theorem XfT(w:World):
 Calls Tryz.prog 186 #[] w fun e w'=>e= .returned (.slice (some ⟨w.heap.size,0,none⟩) 53 53)∧w'=w.alloc (.cells (flat Prp.kinds).toArray 218):=by
 go_enter Tryz.func186,Tryz.ntmps186;go_upto_region 1 with(fail);refine wp_region_lit ?_
 refine X3v 54 (a':= { tmps:= #[.slice none 0 0, .agg #[.int .i64 0, .int .i64 9, .int .i64 3], .agg #[.int .i64 10, .int .i64 10, .int .i64 2], .agg #[.int .i64 11, .int .i64 12, .int .i64 3], .agg #[.int .i64 13, .int .i64 13, .int .i64 1], .agg #[.int .i64 14, .int .i64 31, .int .i64 3], .agg #[.int .i64 127, .int .i64 159, .int .i64 3], .agg #[.int .i64 169, .int .i64 169, .int .i64 14], .agg #[.int .i64 173, .int .i64 173, .int .i64 3], .agg #[.int .i64 174, .int .i64 174, .int .i64 14], .agg #[.int .i64 768, .int .i64 879, .int .i64 4], .agg #[.int .i64 1536, .int .i64 1541, .int .i64 7], .agg #[.int .i64 1564, .int .i64 1564, .int .i64 3], .agg #[.int .i64 1611, .int .i64 1631, .int .i64 4], .agg #[.int .i64 1757, .int .i64 1757, .int .i64 7], .agg #[.int .i64 2307, .int .i64 2307, .int .i64 8], .agg #[.int .i64 2363, .int .i64 2363, .int .i64 8], .agg #[.int .i64 2364, .int .i64 2364, .int .i64 4], .agg #[.int .i64 2366, .int .i64 2368, .int .i64 8], .agg #[.int .i64 2377, .int .i64 2380, .int .i64 8], .agg #[.int .i64 2381, .int .i64 2381, .int .i64 4], .agg #[.int .i64 4352, .int .i64 4447, .int .i64 9], .agg #[.int .i64 4448, .int .i64 4519, .int .i64 10], .agg #[.int .i64 4520, .int .i64 4607, .int .i64 11], .agg #[.int .i64 8203, .int .i64 8203, .int .i64 3], .agg #[.int .i64 8204, .int .i64 8204, .int .i64 4], .agg #[.int .i64 8205, .int .i64 8205, .int .i64 5], .agg #[.int .i64 8206, .int .i64 8207, .int .i64 3], .agg #[.int .i64 8232, .int .i64 8238, .int .i64 3], .agg #[.int .i64 8252, .int .i64 8252, .int .i64 14], .agg #[.int .i64 8265, .int .i64 8265, .int .i64 14], .agg #[.int .i64 8288, .int .i64 8303, .int .i64 3], .agg #[.int .i64 8400, .int .i64 8432, .int .i64 4], .agg #[.int .i64 8482, .int .i64 8482, .int .i64 14], .agg #[.int .i64 8505, .int .i64 8505, .int .i64 14], .agg #[.int .i64 8596, .int .i64 8601, .int .i64 14], .agg #[.int .i64 8986, .int .i64 8987, .int .i64 14], .agg #[.int .i64 9728, .int .i64 9732, .int .i64 14], .agg #[.int .i64 9745, .int .i64 9745, .int .i64 14], .agg #[.int .i64 9748, .int .i64 9749, .int .i64 14], .agg #[.int .i64 9786, .int .i64 9786, .int .i64 14], .agg #[.int .i64 9829, .int .i64 9829, .int .i64 14], .agg #[.int .i64 9889, .int .i64 9889, .int .i64 14], .agg #[.int .i64 9989, .int .i64 9989, .int .i64 14], .agg #[.int .i64 10084, .int .i64 10084, .int .i64 14], .agg #[.int .i64 12441, .int .i64 12442, .int .i64 4], .agg #[.int .i64 65024, .int .i64 65039, .int .i64 4], .agg #[.int .i64 65279, .int .i64 65279, .int .i64 3], .agg #[.int .i64 127462, .int .i64 127487, .int .i64 6], .agg #[.int .i64 127744, .int .i64 127994, .int .i64 14], .agg #[.int .i64 127995, .int .i64 127999, .int .i64 4], .agg #[.int .i64 128000, .int .i64 128591, .int .i64 14], .agg #[.int .i64 128640, .int .i64 128767, .int .i64 14], .agg #[.int .i64 129280, .int .i64 129535, .int .i64 14], .slice (some ⟨w.heap.size,0,none⟩) 53 53],defers:= [] }) (w':=w.alloc (.cells (flat Prp.kinds).toArray 218)) (by kernel_rfl) ?_
 simp only[List.drop_succ_cons,List.drop_zero];go_wp2_with fail;go_ret;exact⟨rfl,rfl⟩
theorem XxP(r:Int)(w:World):
 Calls Tryz.prog 158 #[.int .i64 r] w fun e w'=>e= .returned (.int .i64 (Prp.gcbI r))∧Below w.heap.size w w':=by
 unfold Prp.gcbI;by_cases h:0xAC00≤r∧r≤0xD7A3
 ·simp only[if_pos h];obtain⟨h1,h2⟩:=h;by_cases h3:(r - 0xAC00) % 28=0
  ·simp only[if_pos h3];go_enter Tryz.func158,Tryz.ntmps158;go_wp2_with fail;go_ret;exact⟨rfl,Below.refl _ _⟩
  ·simp only[if_neg h3];have b:((r - 0xAC00) % 28 == 0)=false:=by simpa using h3
   go_enter Tryz.func158,Tryz.ntmps158;go_wp2_with fail;go_ret;exact⟨rfl,Below.refl _ _⟩
 ·simp only[if_neg h];by_cases h1:0xAC00≤r
  ·have h2:decide (r≤0xD7A3)=false:=by simp;omega
   clear h;unfold Prp.kndI;go_enter Tryz.func158,Tryz.ntmps158;go_wp2_with fail;refine(XfT _).mono ?_;rintro e w1 ⟨rfl,hw⟩;replace hw:=hid hw;go_wp2_with fail;refine(Xaa Prp.kinds (by decide) w.heap.size r w1 (by rw[hw.out];exact XDD w _ _ Prp.kinds rfl) 53 rfl).mono ?_;rintro e w2 ⟨rfl,rfl⟩;go_wp2_with fail;go_ret;exact⟨rfl,by rw[hw.out];exact X04 _ _⟩
  ·have a:decide (0xAC00≤r)=false:=by simp;omega
   clear h;unfold Prp.kndI;go_enter Tryz.func158,Tryz.ntmps158;go_wp2_with fail;refine(XfT _).mono ?_;rintro e w1 ⟨rfl,hw⟩;replace hw:=hid hw;go_wp2_with fail;refine(Xaa Prp.kinds (by decide) w.heap.size r w1 (by rw[hw.out];exact XDD w _ _ Prp.kinds rfl) 53 rfl).mono ?_;rintro e w2 ⟨rfl,rfl⟩;go_wp2_with fail;go_ret;exact⟨rfl,by rw[hw.out];exact X04 _ _⟩
theorem Xk8(w:World):
 Calls Tryz.prog 185 #[] w fun e w'=>e= .returned (.slice (some ⟨w.heap.size,0,none⟩) 15 15)∧w'=w.alloc (.cells (flat Prp.dropped).toArray 218):=by
 go_enter Tryz.func185,Tryz.ntmps185;go_upto_region 1 with(fail);refine wp_region_lit ?_
 refine X3v 16 (a':= { tmps:= #[.slice none 0 0, .agg #[.int .i64 173, .int .i64 173, .int .i64 0], .agg #[.int .i64 847, .int .i64 847, .int .i64 0], .agg #[.int .i64 1564, .int .i64 1564, .int .i64 0], .agg #[.int .i64 4447, .int .i64 4448, .int .i64 0], .agg #[.int .i64 6068, .int .i64 6069, .int .i64 0], .agg #[.int .i64 6155, .int .i64 6159, .int .i64 0], .agg #[.int .i64 8203, .int .i64 8207, .int .i64 0], .agg #[.int .i64 8234, .int .i64 8238, .int .i64 0], .agg #[.int .i64 8288, .int .i64 8303, .int .i64 0], .agg #[.int .i64 12644, .int .i64 12644, .int .i64 0], .agg #[.int .i64 65024, .int .i64 65039, .int .i64 0], .agg #[.int .i64 65279, .int .i64 65279, .int .i64 0], .agg #[.int .i64 65440, .int .i64 65440, .int .i64 0], .agg #[.int .i64 65520, .int .i64 65528, .int .i64 0], .agg #[.int .i64 917504, .int .i64 921599, .int .i64 0], .slice (some ⟨w.heap.size,0,none⟩) 15 15],defers:= [] }) (w':=w.alloc (.cells (flat Prp.dropped).toArray 218)) (by kernel_rfl) ?_
 simp only[List.drop_succ_cons,List.drop_zero];go_wp2_with fail;go_ret;exact⟨rfl,rfl⟩
theorem Xq9(r:Int)(w:World):
 Calls Tryz.prog 157 #[.int .i64 r] w fun e w'=>e= .returned (.bool (Prp.drpB r))∧Below w.heap.size w w':=by
 unfold Prp.drpB;go_enter Tryz.func157,Tryz.ntmps157;go_wp2_with fail;refine(Xk8 _).mono ?_;rintro e w1 ⟨rfl,hw⟩;replace hw:=hid hw;go_wp2_with fail;refine(Xaa Prp.dropped (by decide) w.heap.size r w1 (by rw[hw.out];exact XDD w _ _ Prp.dropped rfl) 15 rfl).mono ?_;rintro e w2 ⟨rfl,rfl⟩;go_wp2_with fail;go_ret;exact⟨rfl,by rw[hw.out];exact X04 _ _⟩
noncomputable def XmD(S:ByteArray):Code:=
 ((Go.Code.region 0 #[{ dst:=some 0,op:=Go.Op.assign (Go.Operand.const (Go.Value.string { data:= #[] })),type:=9,pos:= "ref.go:7",after:= #[],guard:=none }] false).seq ((Go.Code.region 1 #[{ dst:=some 0,op:=Go.Op.assign (Go.Operand.const (Go.Value.string S)),type:=9,pos:= "ref.go:8",after:= #[],guard:=none }] false).seq Go.Code.ret))
noncomputable def ctabS:ByteArray:=
 match Tryz.f211.body with
 |
  some (.seq _ (.seq (.region _ ops _) _))=>(match ops[0]? with
  | some o=>(match o.op with | .assign (.const (.string s))=>s | _=>⟨#[]⟩)
  | none=>⟨#[]⟩)
 | _=>⟨#[]⟩
theorem XkJ:Tryz.f211.body=some (XmD ctabS):=by kernel_rfl
theorem Xo4:Lk.rows ctabS.data.toList [] 0=Cas.T:=by decide+kernel
theorem Xrb:Lk.bdd ctabS.data.toList 0 0=true:=by decide+kernel
theorem Xo5:ctabS.size≤100000:=by decide+kernel
theorem Xo6(w:World):
 Calls Tryz.prog 211 #[] w fun e w'=>e= .returned (.string ctabS)∧w=w':=by
 have a:=XkJ;obtain⟨S,hS⟩: ∃S,ctabS=S:=⟨_,rfl⟩;rw[hS] at a ⊢;replace hS:=hid hS;refine calls_of_wp Tryz.func211 a ?_;clear a;unfold XmD;simp only[Tryz.ntmps211,List.size_toArray,List.length_nil,Nat.reduceSub,Array.replicate_succ,
  Array.replicate_zero,List.push_toArray,List.append_toArray,List.nil_append]
 go_wp2_with fail;go_ret;exact⟨rfl,rfl⟩
theorem Xrc(r:Int)(w:World):Calls Tryz.prog 152 #[.string ctabS, .int .i64 r] w (XyB (Lk.look Cas.T r) w):=by
 have h:=Xse ctabS r Xo5 Xrb w;rw[Lk.XlC,Xo4] at h;exact h
theorem XhZ(r:Int)(w:World):Calls Tryz.prog 184 #[.int .i64 r] w (Told (Cas.foldI r) w):=by
 have b:=hid Xo6;have a:=Xrc r;have hf:Cas.foldI r=(Lk.look Cas.T r).getD [r]:=rfl;rw[hf];clear hf;obtain⟨S,hS⟩: ∃S,ctabS=S:=⟨_,rfl⟩;rw[hS] at b a;clear hS;obtain⟨o,ho⟩: ∃o,Lk.look Cas.T r=o:=⟨_,rfl⟩;rw[ho] at a ⊢;clear ho;cases o with
 |
  none=>
  replace a:=hid a;go_enter Tryz.func184,Tryz.ntmps184;go_wp2_with fail;refine(b.out _).mono ?_;rintro e w1 ⟨rfl,rfl⟩;go_wp2_with fail;refine(a.out _).mono ?_;rintro e w1 ⟨v,rfl,hv,hb⟩;replace hv:=hid hv;replace hb:=hid hb;simp only[Option.isSome_none];go_wp2_with fail;go_ret;exact⟨_,rfl,X0a (X0H w.heap.size w1 [r] #[.int .i64 r] _ 1 rfl hb.out.size rfl rfl (by unfold maxLen;omega)),hb.out.alloc hb.out.size _⟩
 |
  some p=>
  replace a:=hid a;go_enter Tryz.func184,Tryz.ntmps184;go_wp2_with fail;refine(b.out _).mono ?_;rintro e w1 ⟨rfl,rfl⟩;go_wp2_with fail;refine(a.out _).mono ?_;rintro e w1 ⟨v,rfl,hv,hb⟩;replace hv:=hid hv;replace hb:=hid hb;simp only[Option.isSome_some];go_wp2_with fail;go_ret;exact⟨_,rfl,hv.out,hb.out⟩
theorem X7J(v:Value)(l:List Int)(w:World)(hl:l.length≤1000000)(hv:RI w v l):Calls Tryz.prog 156 #[v] w (Makes (Cas.allI l) w):=by
 obtain⟨i0,hi,D,E,F⟩:=info_parts X2p;obtain⟨p,cap,rfl⟩:=X0b hv;replace hv:=hid hv;go_enter Tryz.func156,Tryz.ntmps156;go_wp2_with fail;go_loopg [3,4] l.length (fun g vo vi wr=>∃k:Nat,k≤l.length∧vi= .int .i64 k∧g=l.length - k∧OwnI w.heap.size vo (Cas.allI (l.take k)) wr∧Below w.heap.size w wr)
 case atStart=>exact⟨0,Nat.zero_le _,rfl,rfl,X0O _ _,Below.refl _ _⟩
 case round=>
  obtain⟨k,hk,rfl,rfl,a,c⟩:=hrel;by_cases hlt:k<l.length
  ·have y:(k:Int)<(l.length:Int):=by omega
   obtain⟨b,off,rfl,hb,j⟩:=ri_at (X03 hv.out c) (by omega);have hc:=j k hlt;obtain⟨x,hx⟩: ∃x,l[k]=x:=⟨_,rfl⟩;have z:l.take (k+1)=l.take k++ [x]:=by rw[List.take_succ_eq_append_getElem hlt,hx]
   rw[hx] at hc;have n:=(Cas.X20 (l.take k)).2;have C:=(Cas.X9g x).2;have d:=Cas.XvS (l.take k) x;rw[←z] at d;obtain⟨m,hm⟩: ∃m,Cas.allI (l.take k)=m:=⟨_,rfl⟩;obtain⟨f,hf⟩: ∃f,Cas.foldI x=f:=⟨_,rfl⟩;have h:=XhZ x;rw[hm] at a d n;rw[hf] at d C h;have G:m.length≤3 *l.length:=by rw[List.length_take] at n;omega
   replace d:=hid d;replace a:=hid a;replace c:=hid c;replace h:=hid h;clear j z hx hm hf n;go_wp2_with fail;refine(h.out _).mono ?_;rintro e w1 ⟨vf,rfl,B,r⟩;have o:=hid (X0x a.out r);have i:=hid (X05 c.out r);have A:=hid (X0Y B);clear B r;go_wp2_with (at_builtin;refine X0c rfl _ _ 24 rfl w.heap.size 3 i0 (.int .i64 0) 8 Tryz.underlying24 hi D E F rfl _ _ _ rfl o.out _ _ rfl A.out (X0u f) (by rw[List.length_map];unfold maxLen;omega) (by rw[List.length_map];omega) i.out.size ?_;intro v5 w5 t q);have u:=X0i (l:=m++f) t (by simp) (by simp);have s:=X0k i.out q i.out.size o.out (Nat.le_refl _)
   go_roundg (l.length - (k+1))
   case measure=>omega
   case rel=>exact⟨k+1,by omega,by go_num,rfl,by rw[d.out];exact u,s⟩
  ·obtain rfl:k=l.length:=by omega
   have y:decide ((l.length:Int)<(l.length:Int))=false:=by simp
   rw[List.take_length] at a;replace a:=hid a;replace c:=hid c;go_wp2_with fail;go_ret;exact⟨_,rfl,a.out,c.out⟩
theorem X9E(v:Value)(l:List Int)(w:World)(hl:l.length≤100000)(hv:RI w v l):Calls Tryz.prog 122 #[v] w (Makes (Fol.leftI l) w):=by
 obtain⟨i0,hi,E,G,H⟩:=info_parts X2p;have y:=hid (X7J v l w (by omega) hv);have D:=(Cas.X20 l).2;unfold Fol.leftI;obtain⟨m,hm⟩: ∃m,Cas.allI l=m:=⟨_,rfl⟩;rw[hm] at y D ⊢;obtain⟨F,hF⟩: ∃F,m.filter (fun r=> !Prp.drpB r)=F:=⟨_,rfl⟩;rw[hF];replace hF:=hid hF;clear hm;go_enter Tryz.func122,Tryz.ntmps122;go_wp2_with fail;refine y.out.mono ?_;rintro e w1 ⟨v1,rfl,B,j⟩;have u:=X0a B;obtain⟨p,cap,rfl⟩:=X0b u;replace u:=hid u;replace j:=hid j;clear B;go_wp2_with fail
 go_loopg [4,5] m.length (fun g vo vi wr=>∃ (k:Nat) (o:List Int),k≤m.length∧vi= .int .i64 k∧g=m.length - k∧OwnI w1.heap.size vo o wr∧Hid ((m.take k).filter (fun r=> !Prp.drpB r)=o)∧o.length≤k∧Below w1.heap.size w1 wr)
 case atStart=>exact⟨0,[],Nat.zero_le _,rfl,rfl,X0O _ _,hid rfl,by simp,Below.refl _ _⟩
 case round=>
  obtain⟨k,o,hk,rfl,rfl,c,q,K,a⟩:=hrel;by_cases hlt:k<m.length
  ·have A:(k:Int)<(m.length:Int):=by omega
   obtain⟨b,off,rfl,hb,i⟩:=ri_at u.out (by omega);have n:=i k hlt;have hs:(m.take (k+1)).filter (fun r=> !Prp.drpB r)=o++(if Prp.drpB m[k]=true then [] else [m[k]]):=by
    rw[List.take_succ_eq_append_getElem hlt,List.filter_append,q.out]
    congr 1
    cases h:Prp.drpB m[k] <;> simp [h]
   obtain⟨x,hx⟩: ∃x,m[k]=x:=⟨_,rfl⟩;rw[hx] at n hs;have hc:wr.cell? ⟨b,off+k,none⟩=some (.int .i64 x):=(a.cell hb).trans n;have f:=Xq9 x;replace n:=hid n;cases s:Prp.drpB x with
   |
    true=>
    rw[s] at f hs;simp only[if_true,List.append_nil] at hs;replace f:=hid f;replace hs:=hid hs;replace c:=hid c;replace a:=hid a;clear i hx s q;go_wp2_with fail;refine(f.out _).mono ?_;rintro e w2 ⟨rfl,d⟩;have o2:=hid (X0x c.out d);replace d:=hid (X05 a.out d);go_wp2_with fail;go_roundg (m.length - (k+1))
    case measure=>omega
    case rel=>exact⟨k+1,o,by omega,by go_num,rfl,o2.out,hs,by omega,d.out⟩
   |
    false=>
    rw[s] at f hs;simp only[Bool.false_eq_true,if_false] at hs;replace f:=hid f;replace hs:=hid hs;replace c:=hid c;replace a:=hid a;clear i hx s q;go_upto_region 7 with(go_at_call 157;refine(f.out _).mono ?_;rintro e w2 ⟨rfl,d⟩;have o2:=hid (X0B (X0x c.out d) (.cells #[.int .i64 x] 3));replace d:=hid (X05 a.out d));have I:w2.cell? ⟨b,off+k,none⟩=some (.int .i64 x):=(d.out.cell hb).trans n.out;have b2:=hid (d.out.alloc d.out.size (.cells #[.int .i64 x] 3));have s2:=hid (X0Y (X0a (X0H w1.heap.size w2 [x] #[.int .i64 x] w2.heap.size 1 rfl d.out.size rfl rfl (by unfold maxLen;omega))))
    go_wp2_with (at_builtin;refine X0c rfl _ _ 24 rfl w1.heap.size 3 i0 (.int .i64 0) 8 Tryz.underlying24 hi E G H rfl _ _ _ rfl o2.out _ _ rfl s2.out (X0u _) (by simp only[List.length_map,List.length_append,List.length_take,List.length_drop,List.length_cons,List.length_nil,List.length_singleton];unfold maxLen;omega) (by simp only[List.length_map,List.length_append,List.length_take,List.length_drop,List.length_cons,List.length_nil,List.length_singleton];omega) b2.out.size ?_;intro v5 w5 C z;have o5:=hid (X0i (l:=o++ [x]) C (by(try simp);try omega) (by(try simp);try omega));have b5:=hid (X0k b2.out z b2.out.size o2.out (Nat.le_refl _));clear C z)
    go_roundg (m.length - (k+1))
    case measure=>omega
    case rel=>exact⟨k+1,o++ [x],by omega,by go_num,rfl,o5.out,hs,by simp;omega,b5.out⟩
  ·obtain rfl:k=m.length:=by omega
   have A:decide ((m.length:Int)<(m.length:Int))=false:=by simp
   have t:=q.out;rw[List.take_length,hF.out] at t;replace t:=hid t;replace c:=hid c;replace a:=hid a;clear q;go_wp2_with fail;go_ret;exact⟨_,rfl,by rw[t.out];exact X0w c.out j.out.size,j.out.trans (a.out.mono j.out.size)⟩
end Go.Proofs.YtkofnpkopbnocaaGreatDoor
