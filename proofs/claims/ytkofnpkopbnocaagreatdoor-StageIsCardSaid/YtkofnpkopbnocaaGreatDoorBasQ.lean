import Derived.Test.YtkofnpkopbnocaaGreatDoorMatP
import Derived.Test.YtkofnpkopbnocaaGreatDoorBasP
import Derived.Test.YtkofnpkopbnocaaGreatDoorG1
set_option linter.unusedSimpArgs false
set_option linter.unusedVariables false
namespace Go.Proofs.YtkofnpkopbnocaaGreatDoor
open Go.RowKit Go.Lib
def csV(s:Clu.CS):Value:= .agg #[.bool s.on, .int .i64 s.kind, .bool s.pict, .bool s.odd]
def sgV(v:Value)(s:Clu.CS):Value:= .agg #[v, .bool s.on, .int .i64 s.kind, .bool s.pict, .bool s.odd]
abbrev strV(t:List UInt8):Value:= .string ⟨t.toArray⟩
def SR(w:World)(v:Value)(ts:List (List UInt8)):Prop:=
 (v= .slice none 0 0∧ts= [])∨∃a cap,v= .slice (some a) ts.length cap∧ts.length≤cap∧(0<ts.length→∃b off,a=⟨b,off,none⟩∧b<w.heap.size∧∀i (h:i<ts.length),w.cell? ⟨b,off+i,none⟩=some (strV ts[i]))
theorem sr_at{w:World}{p:Option Addr}{n cap:Nat}{ts:List (List UInt8)}(h:SR w (.slice p n cap) ts)(hl:0<ts.length): ∃b off,p=some ⟨b,off,none⟩∧b<w.heap.size∧∀i (h:i<ts.length),w.cell? ⟨b,off+i,none⟩=some (strV ts[i]):=by
 rcases h with⟨_,rfl⟩ | ⟨a,cap',he,_,h⟩
 ·simp at hl
 ·simp at he;obtain⟨rfl,_,_⟩:=he;obtain⟨b,off,rfl,h1,h2⟩:=h hl;exact⟨b,off,rfl,h1,h2⟩
theorem X3R{w:World}{v:Value}{ts:List (List UInt8)}(h:SR w v ts): ∃p cap,v= .slice p ts.length cap:=by
 rcases h with⟨rfl,rfl⟩ | ⟨a,cap,rfl,_⟩
 ·exact⟨none,0,rfl⟩
 ·exact⟨_,_,rfl⟩
def ToldB(l:List UInt8)(w:World)(e:Ending)(w':World):Prop:=∃v,e= .returned v∧X0v w' v l∧Below w.heap.size w w'
structure Flw.Small (b:List UInt8):Prop where
 b0:b.length≤50000
 b1:(Dec.allL b).length≤40000
 b2:(Nfk.nfkcI (Dec.allL b)).length≤40000
 b3:(Fol.leftI (Nfk.nfkcI (Dec.allL b))).length≤40000
 b4:(Flw.X39 b).length≤50000
abbrev Tabs(w:World):Prop:=Lib.Utf8Tabs 0 1 w
theorem tabs_next{w w1:World}(h:Tabs w)(hb:Below w.heap.size w w1):Tabs w1:=Utf8Tabs_below h hb
end Go.Proofs.YtkofnpkopbnocaaGreatDoor
