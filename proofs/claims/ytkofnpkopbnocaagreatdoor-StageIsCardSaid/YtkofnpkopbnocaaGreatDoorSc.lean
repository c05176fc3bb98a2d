import Derived.Test.YtkofnpkopbnocaaGreatDoorBasP
import Derived.Test.YtkofnpkopbnocaaGreatDoorShelf
set_option linter.unusedSimpArgs false
set_option linter.unusedVariables false
namespace Go.Proofs.YtkofnpkopbnocaaGreatDoor
open Go.RowKit Go.Lib
theorem Xqh(v:Value)(l:List Int)(w:World)(hl:l.length≤100000)(hv:RI w v l):Calls Tryz.prog 60 #[v] w (Makes l w):=by
 rcases hv with⟨rfl,rfl⟩ | ⟨a,cap,rfl,d,hc⟩
 ·refine(Tryz.slices_Clone_int_nil 0 0 w).mono ?_;rintro e w' ⟨rfl,rfl⟩;exact⟨_,rfl,X0O _ _,Below.refl _ _⟩
 ·by_cases h0:l.length=0
  ·obtain rfl:l= []:=List.eq_nil_of_length_eq_zero h0;refine(Tryz.slices_Clone_int_zero a cap w).mono ?_;rintro e w' ⟨v',rfl,h1,_,h2⟩;exact⟨v',rfl,h1,h2⟩
  ·obtain⟨b,off,rfl,hb,c⟩:=hc (by omega);refine(Tryz.slices_Clone_int b off l.length cap l w (Nat.le_refl _) (by omega) (fun j hj=>by rw[c j hj];simp [List.getD,hj])).mono ?_;rintro e w' ⟨v',rfl,h1,_,h2⟩;rw[List.take_length] at h1;exact⟨v',rfl,h1,h2⟩
end Go.Proofs.YtkofnpkopbnocaaGreatDoor
