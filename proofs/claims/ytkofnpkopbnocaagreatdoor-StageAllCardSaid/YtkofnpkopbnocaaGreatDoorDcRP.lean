import Derived.Test.YtkofnpkopbnocaaGreatDoorKP
import Derived.Test.YtkofnpkopbnocaaGreatDoorMatP
import Derived.Test.YtkofnpkopbnocaaGreatDoorG1
import Derived.Test.YtkofnpkopbnocaaGreatDoorBasP
import Derived.Deep.LoopGhost
import Derived.Deep.DeepCutAuto
import Derived.StillTailTactics
import Derived.Deep.RegionHeld3
import Derived.Deep.QuietTactic
import Derived.BigQuiet
namespace Go.Proofs.YtkofnpkopbnocaaGreatDoor.Tx
end Go.Proofs.YtkofnpkopbnocaaGreatDoor.Tx
namespace Go.Proofs.YtkofnpkopbnocaaGreatDoor.Tq
set_option linter.unusedSimpArgs false
set_option linter.unusedVariables false
open Go.RowKit Go.Lib Tx
theorem X32{a b:Nat}(h:a=b):((a:Int) != (b:Int))=false:=by subst h;simp
theorem X19{w:World}(o:Obj)(n:Nat):Below w.heap.size w ((w.alloc o).drewN n):=by
 have h:=(Below.refl w.heap.size w).alloc (Nat.le_refl _) o
 exact⟨h.os,h.tape,h.output,h.size,h.block⟩
def Own(B:Nat)(v:Value)(l:List Int)(w:World):Prop:=w.ownsRow B 3 1 v l.length (l.map (Value.int .i64))
theorem X27(B:Nat)(w:World):Own B (.slice none 0 0) [] w:=World.ownsRow_nil w B 3 1
theorem X6f(B:Nat)(x:Int)(w:World)(hB:B≤w.heap.size):Own B (.slice (some ⟨w.heap.size,0,none⟩) 1 1) [x] (w.alloc (.cells #[.int .i64 x] 3)):=
 ⟨rfl, .inr ⟨w.heap.size,1,#[.int .i64 x],rfl,hB,heap_alloc_new w _,Nat.le_refl _,by decide,rfl,rfl⟩⟩
theorem X1z{s:ByteArray}(h:s.size=0):s.toList.isEmpty=true:=by
 rw[Lib.toList_data]
 cases s with
 |
  mk d=>
  have h':d.size=0:=h
  simpa using h'
theorem X0X{s:ByteArray}(h: ¬s.size=0):s.toList.isEmpty=false:=by
 rw[Lib.toList_data]
 cases s with
 |
  mk d=>
  have h': ¬d.size=0:=h
  simpa using h'
def Box(w:World)(k:Nat)(v:Value):Prop:=k<w.heap.size∧w.cell? ⟨k,0,none⟩=some v∧w.frozen? ⟨k,0,none⟩=false
theorem X0R(w:World)(v:Value)(T:TypeId):Box (w.alloc (.cells #[v] T)) w.heap.size v:=by
 refine⟨by simp,?_,?_⟩
 ·simp
 ·simp
theorem X0F{w:World}{k:Nat}{v:Value}(h:Box w k v)(o:Obj):Box (w.alloc o) k v:=by
 obtain⟨h0,h1,h2⟩:=h
 exact⟨by simp;omega,by rw[World.cell?_alloc_lt _ _ _ h0];exact h1,by rw[World.frozen?_alloc_past _ _ _ h0];exact h2⟩
theorem X0n{w w1:World}{k:Nat}{v:Value}(h:Box w k v)(hb:Below w.heap.size w w1):Box w1 k v:=by
 obtain⟨h0,h1,h2⟩:=h
 have:=hb.size
 exact⟨by omega,by rw[hb.cell h0];exact h1,by rw[hb.frozen h0];exact h2⟩
theorem X5T{w w1:World}{k:Nat}{v:Value}{row:Option Nat}(h:Box w k v)(hg:w.drew.grownBy w1 row)(hne:some k≠row):Box w1 k v:=by
 obtain⟨h0,h1,h2⟩:=h
 have hb:=hg.block k h0 hne
 have:=hg.size
 exact⟨Nat.lt_of_lt_of_le h0 this,by rw[World.cell?_of_block (w:=w) hb];exact h1,by rw[World.frozen?_of_block (w:=w) hb];exact h2⟩
theorem X6g{B:Nat}{w0 w w1:World}{k n c:Nat}(h:Below B w0 w)(hg:w.drew.grownBy w1 (Value.slice (some ⟨k,0,none⟩) n c).ownBlock)(hB:B≤w.heap.size)(hk:B≤k):Below B w0 w1:=
 h.drew.grown hg hB (fun j hj=>by simp [Value.ownBlock] at hj;omega)
theorem X2l(c:UInt8)(W:World):(convert 140 9 (.slice (some ⟨W.heap.size,0,none⟩) 1 1)).run Tryz.prog (W.alloc (.cells #[.int .u8 c.toNat] 5))= .ok (.string ⟨#[c]⟩) (W.alloc (.cells #[.int .u8 c.toNat] 5)):=by
 refine run_convert_bytes_back (P:=Tryz.prog) _ 140 9 5 ⟨W.heap.size,0,none⟩ 1 [c] Tryz.underlying140 Tryz.underlying5 Tryz.underlying9 ?_
 intro j hj
 have:j=0:=by simpa using hj
 subst this
 simp [Addr.add]
theorem X2x{w w1:World}{o1 o2:Obj}(hb1:Below ((w.alloc o1).alloc o2).heap.size ((w.alloc o1).alloc o2) w1):Below w.heap.size w w1:=
 (((Below.refl _ _).alloc (Nat.le_refl _) _).alloc (by simp) _).trans (hb1.mono (by simp;omega))
theorem X1j{w w1 w2:World}{o3:Obj}(hb1:Below w.heap.size w w1)(hb2:Below (w1.alloc o3).heap.size (w1.alloc o3) w2):Below w.heap.size w w2:=
 (hb1.alloc hb1.size _).trans (hb2.mono (by have:=hb1.size;simp;omega))
theorem X1W(B:Nat)(x:Int)(w:World)(k:Nat)(hk:w.heap.size=k)(hB:B≤w.heap.size):Own B (.slice (some ⟨k,0,none⟩) 1 1) [x] (w.alloc (.cells #[.int .i64 x] 3)):=by
 subst hk
 exact X6f B x w hB
theorem X2H:(Tryz.prog.info? 3).map (fun i=>(i.zero,i.size,i.bytes))=some (some (.int .i64 0),1,8):=by kernel_rfl
theorem X5r{B:Nat}{v:Value}{l:List Int}{w:World}(h:Own B v l w):Own B v l w.drew:=h
theorem X44{B:Nat}{v:Value}{l:List Int}{w:World}(h:Own B v l w):
 (v= .slice none 0 0∧l= [])∨∃g cap,v= .slice (some ⟨g,0,none⟩) l.length cap∧B≤g∧g<w.heap.size∧∀j u,(l.map (Value.int .i64))[j]? =some u→w.cell? ((⟨g,0,none⟩:Addr).add j)=some u:=by
 have hc:=fun g hg=>World.ownsRow.cells (g:=g) h hg
 have a:=World.ownsRow.lt h
 rcases h.2 with⟨rfl,hl⟩ | ⟨g,cap,b,rfl,hB,_⟩
 ·exact .inl ⟨rfl,List.eq_nil_of_length_eq_zero hl⟩
 ·exact .inr ⟨g,cap,rfl,hB,(a g rfl).2,hc g rfl⟩
theorem X28{B:Nat}{v:Value}{l:List Int}{w:World}(h:Own B v l w)(a:Addr)(u:Value)(hne:v.ownBlock=none∨v.ownBlock≠some a.block):Own B v l (w.setCell a u):=by
 refine World.ownsRow.kept (row:=some a.block) h ⟨rfl,rfl,rfl,by simp [World.setCell],fun k _ hk=>?_⟩ hne
 exact Below.heap_setCell _ _ _ _ (fun e=>hk (by rw[e]))
theorem X8p{j k n c:Nat}(h:j≠k):some j≠(Value.slice (some ⟨k,0,none⟩) n c).ownBlock:=by
 intro e
 exact h (Option.some.inj e)
theorem X2y{B B':Nat}{v:Value}{l:List Int}{w:World}(h:Own B' v l w)(hB:B≤B'):Own B v l w:=by
 refine⟨h.1,?_⟩
 rcases h.2 with hn | ⟨g,cap,a,hv,hg,r⟩
 ·exact .inl hn
 ·exact .inr ⟨g,cap,a,hv,Nat.le_trans hB hg,r⟩
theorem X3y{B k:Nat}{v:Value}{l:List Int}{w:World}(h:Own B v l w)(hk:k<B):v.ownBlock=none∨v.ownBlock≠some k:=by
 refine .inr fun e=>?_
 have:=(World.ownsRow.lt h k e).1
 omega
theorem X17{B n:Nat}{v:Value}{l:List Int}{xs:List Value}{w:World}(h:w.ownsRow B 3 1 v n xs)(hn:n=l.length)(hx:xs=l.map (Value.int .i64)):Own B v l w:=by
 subst hn
 subst hx
 exact h
theorem X12(l:List Int): ∀u∈l.map (Value.int .i64),u.oneCell'=true:=by
 intro u hu
 obtain⟨x,_,rfl⟩:=List.mem_map.1 hu
 rfl
theorem X3g(c:UInt8)(W:World)(a:Addr)(u:Value):(convert 140 9 (.slice (some ⟨W.heap.size,0,none⟩) 1 1)).run Tryz.prog ((W.setCell a u).alloc (.cells #[.int .u8 c.toNat] 5))= .ok (.string ⟨#[c]⟩) ((W.setCell a u).alloc (.cells #[.int .u8 c.toNat] 5)):=by
 have h:=X2l c (W.setCell a u)
 rw[show (W.setCell a u).heap.size=W.heap.size from by simp] at h
 exact h
theorem X45{w:World}{k:Nat}{v:Value}(h:Box w k v)(a:Addr)(u:Value)(hne:a.block≠k):Box (w.setCell a u) k v:=by
 obtain⟨h0,h1,h2⟩:=h
 refine⟨by simpa using h0,?_,by rw[World.frozen?_setCell];exact h2⟩
 rw[World.cell?_setCell_other]
 ·exact h1
 ·intro e
  exact hne (by rw[e])
theorem X71(n b0 b1 b2:Nat)(h:4≤n):Dec.fullN n b0 b1 b2=true:=by
 have h1:Lib.firstT b0 % 8≤n:=by
  rcases Lib.firstT_cases b0 with hX | hX | hX | hX | hX | hX | hX | hX | hX <;> rw[hX] <;> omega
 have h2:n≠0:=by omega
 simp [Dec.fullN,h1,h2]
theorem X72{s:ByteArray}(h:Dec.begB s=true):s.size≤3:=by
 rcases Nat.lt_or_ge 3 s.size with h3 | h3
 ·have hf:Dec.fullB s=true:=X71 _ _ _ _ h3
  simp [Dec.begB,hf] at h
 ·exact h3
theorem X5U{s:ByteArray}(h:Dec.saneB s=true):s.size≤3:=by
 unfold Dec.saneB at h
 rcases Bool.or_eq_true _ _ ▸ h with h | h
 ·have:=of_decide_eq_true h
  omega
 ·exact X72 h
end Go.Proofs.YtkofnpkopbnocaaGreatDoor.Tq
