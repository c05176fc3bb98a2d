import Derived.Test.YtkofnpkopbnocaaGreatDoorBasP
import Derived.WalkKit
import Derived.WalkSpells
import Derived.WalkLawsBesides
import Derived.Deep.QuietTactic
import Derived.BigQuiet
import Derived.Lib.Hide
import Derived.Lib.AppendStr
import Derived.Laws.IdiomStrings
set_option linter.unusedSimpArgs false
set_option linter.unusedVariables false
namespace Go.Proofs.YtkofnpkopbnocaaGreatDoor
open Go.RowKit Go.Lib
def X0v(w:World)(v:Value)(bs:List UInt8):Prop:=
 (v= .slice none 0 0∧bs= [])∨∃a cap,v= .slice (some a) bs.length cap∧bs.length≤cap∧(0<bs.length→∃b off,a=⟨b,off,none⟩∧b<w.heap.size∧∀i (h:i<bs.length),w.cell? ⟨b,off+i,none⟩=some (.int .u8 (bs[i].toNat:Int)))
theorem X1B{w:World}{p:Option Addr}{n cap:Nat}{l:List UInt8}(h:X0v w (.slice p n cap) l)(hl:0<l.length): ∃b off,p=some ⟨b,off,none⟩∧b<w.heap.size∧∀i (h:i<l.length),w.cell? ⟨b,off+i,none⟩=some (.int .u8 (l[i].toNat:Int)):=by
 rcases h with⟨_,rfl⟩ | ⟨a,cap',he,_,h⟩
 ·simp at hl
 ·simp at he;obtain⟨rfl,_,_⟩:=he;obtain⟨b,off,rfl,h1,h2⟩:=h hl;exact⟨b,off,rfl,h1,h2⟩
theorem X0o{w:World}{v:Value}{l:List UInt8}(h:X0v w v l): ∃p cap,v= .slice p l.length cap:=by
 rcases h with⟨rfl,rfl⟩ | ⟨a,cap,rfl,_⟩
 ·exact⟨none,0,rfl⟩
 ·exact⟨_,_,rfl⟩
theorem X4K:(Tryz.prog.info? 5).map (fun i=>(i.zero,i.size,i.bytes))=some (some (.int .u8 0),1,1):=by kernel_rfl
def OwnB(B:Nat)(v:Value)(l:List UInt8)(w:World):Prop:=w.ownsRow B 5 1 v l.length (Lib.byteCells l)
theorem XgL(B:Nat)(w:World):OwnB B (.slice none 0 0) [] w:=World.ownsRow_nil w B 5 1
theorem X2D{B n:Nat}{v:Value}{l:List UInt8}{xs:List Value}{w:World}(h:w.ownsRow B 5 1 v n xs)(hn:n=l.length)(hx:xs=Lib.byteCells l):OwnB B v l w:=by
 subst hn;subst hx;exact h
theorem X67{B:Nat}{v:Value}{l:List UInt8}{w:World}(h:OwnB B v l w)(o:Obj):OwnB B v l (w.alloc o):=World.ownsRow.alloc h o
theorem X1R{B:Nat}{v:Value}{l:List UInt8}{w:World}(h:OwnB B v l w):X0v w v l:=by
 have hc:=fun g hg=>World.ownsRow.cells (g:=g) h hg;have c:=World.ownsRow.lt h;rcases h.2 with⟨rfl,hl⟩ | ⟨g,cap,d,rfl,hB,_,a,_⟩
 ·exact .inl ⟨rfl,List.eq_nil_of_length_eq_zero hl⟩
 ·refine .inr ⟨⟨g,0,none⟩,cap,rfl,a,fun _=>⟨g,0,rfl,(c g rfl).2,fun i hi=>?_⟩⟩;have h:=hc g rfl i (.int .u8 (l[i].toNat:Int)) (by simp [Lib.byteCells,hi]);have b:(⟨g,0,none⟩:Addr).add i=⟨g,i,none⟩:=by unfold Addr.add;split <;> simp_all
  rw[b] at h;simpa using h
end Go.Proofs.YtkofnpkopbnocaaGreatDoor
