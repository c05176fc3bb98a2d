import Derived.Test.YtkofnpkopbnocaaGreatDoorCards
import Derived.Test.YtkofnpkopbnocaaGreatDoorTie
import Derived.Test.YtkofnpkopbnocaaGreatDoorFP
import Derived.Test.YtkofnpkopbnocaaGreatDoorShelf
import Derived.Lib.LaidU8
import Derived.Deep.DeepHandedRow
import Derived.Lib.LaidTab
import Derived.PinnedBridge
import Derived.SevenTiedAt
set_option linter.unusedSimpArgs false
set_option linter.unusedVariables false
namespace Go.Proofs.YtkofnpkopbnocaaGreatDoor
open Go.ChangeShapes Go.WideShapes Go.ChangeAt Go.RowKit Go.Shelf
theorem X16{W:World}(h:laidMetH Tryz.prog [("math/bits.deBruijn32tab",Rows.laid_math_bits_deBruijn32tab),("math/bits.deBruijn64tab",Rows.laid_math_bits_deBruijn64tab),("internal/strconv.uint64pow10",Rows.laid_internal_strconv_uint64pow10),("unicode/utf8.acceptRanges",Rows.laid_unicode_utf8_acceptRanges),("strconv.ErrRange",Rows.laid_strconv_ErrRange),("strconv.ErrSyntax",Rows.laid_strconv_ErrSyntax),("unicode/utf8.first",Rows.laid_unicode_utf8_first)] W):Lib.Utf8Tabs 0 1 W:=by
 have h1:laidMet Tryz.prog [("math/bits.deBruijn32tab",Rows.laid_math_bits_deBruijn32tab),("math/bits.deBruijn64tab",Rows.laid_math_bits_deBruijn64tab),("internal/strconv.uint64pow10",Rows.laid_internal_strconv_uint64pow10),("unicode/utf8.acceptRanges",Rows.laid_unicode_utf8_acceptRanges),("strconv.ErrRange",Rows.laid_strconv_ErrRange),("strconv.ErrSyntax",Rows.laid_strconv_ErrSyntax),("unicode/utf8.first",Rows.laid_unicode_utf8_first)] W:=h;have hf:Lib.VarReads Tryz.prog W "unicode/utf8.first" Lib.firstData:=by
  rw[←Pinned.utf8First_eq];exact Lib.laidMet.reads h1 (show ("unicode/utf8.first",Rows.laid_unicode_utf8_first)∈_ by simp)
 have ha:Lib.VarReads Tryz.prog W "unicode/utf8.acceptRanges" Lib.acceptData:=Lib.laidMet.reads h1 (show ("unicode/utf8.acceptRanges",Rows.laid_unicode_utf8_acceptRanges)∈_ by simp);exact utf8Tabs_of_reads Tryz.lays260 ⟨by kernel_rfl,by kernel_rfl,by kernel_rfl,by kernel_rfl,by kernel_rfl,by kernel_rfl,by kernel_rfl⟩ hf ha
noncomputable def low:Nat:=(World.holding Tryz.prog default ⟨#[],#[],[]⟩).heap.size
noncomputable def lput0:Obj→Obj
 | .cells _ t frozen=> .cells #[.int .u8 0, .int .u8 1, .int .u8 28, .int .u8 2, .int .u8 29, .int .u8 14, .int .u8 24, .int .u8 3, .int .u8 30, .int .u8 22, .int .u8 20, .int .u8 15, .int .u8 25, .int .u8 17, .int .u8 4, .int .u8 8, .int .u8 31, .int .u8 27, .int .u8 13, .int .u8 23, .int .u8 21, .int .u8 19, .int .u8 16, .int .u8 7, .int .u8 26, .int .u8 12, .int .u8 18, .int .u8 6, .int .u8 11, .int .u8 5, .int .u8 10, .int .u8 9] t frozen
 | o=>o
noncomputable def lput1:Obj→Obj
 | .cells _ t frozen=> .cells #[.int .u8 0, .int .u8 1, .int .u8 56, .int .u8 2, .int .u8 57, .int .u8 49, .int .u8 28, .int .u8 3, .int .u8 61, .int .u8 58, .int .u8 42, .int .u8 50, .int .u8 38, .int .u8 29, .int .u8 17, .int .u8 4, .int .u8 62, .int .u8 47, .int .u8 59, .int .u8 36, .int .u8 45, .int .u8 43, .int .u8 51, .int .u8 22, .int .u8 53, .int .u8 39, .int .u8 33, .int .u8 30, .int .u8 24, .int .u8 18, .int .u8 12, .int .u8 5, .int .u8 63, .int .u8 55, .int .u8 48, .int .u8 27, .int .u8 60, .int .u8 41, .int .u8 37, .int .u8 16, .int .u8 46, .int .u8 35, .int .u8 44, .int .u8 21, .int .u8 52, .int .u8 32, .int .u8 23, .int .u8 11, .int .u8 54, .int .u8 26, .int .u8 40, .int .u8 15, .int .u8 34, .int .u8 20, .int .u8 31, .int .u8 10, .int .u8 25, .int .u8 14, .int .u8 19, .int .u8 9, .int .u8 13, .int .u8 8, .int .u8 7, .int .u8 6] t frozen
 | o=>o
noncomputable def lput2:Obj→Obj
 | .cells _ t frozen=> .cells #[.int .u64 1, .int .u64 10, .int .u64 100, .int .u64 1000, .int .u64 10000, .int .u64 100000, .int .u64 1000000, .int .u64 10000000, .int .u64 100000000, .int .u64 1000000000, .int .u64 10000000000, .int .u64 100000000000, .int .u64 1000000000000, .int .u64 10000000000000, .int .u64 100000000000000, .int .u64 1000000000000000, .int .u64 10000000000000000, .int .u64 100000000000000000, .int .u64 1000000000000000000, .int .u64 10000000000000000000] t frozen
 | o=>o
noncomputable def lput3:Obj→Obj
 | .cells _ t frozen=> .cells #[.int .u8 128, .int .u8 191, .int .u8 160, .int .u8 191, .int .u8 128, .int .u8 159, .int .u8 144, .int .u8 191, .int .u8 128, .int .u8 143, .int .u8 0, .int .u8 0, .int .u8 0, .int .u8 0, .int .u8 0, .int .u8 0, .int .u8 0, .int .u8 0, .int .u8 0, .int .u8 0, .int .u8 0, .int .u8 0, .int .u8 0, .int .u8 0, .int .u8 0, .int .u8 0, .int .u8 0, .int .u8 0, .int .u8 0, .int .u8 0, .int .u8 0, .int .u8 0] t frozen
 | o=>o
noncomputable def lput4:Obj→Obj
 | .cells _ t frozen=> .cells #[.iface 259 (.pointer (some ⟨low,0,none⟩))] t frozen
 | o=>o
noncomputable def lput5:Obj→Obj
 | .cells _ t frozen=> .cells #[.iface 259 (.pointer (some ⟨low+1,0,none⟩))] t frozen
 | o=>o
noncomputable def lput6:Obj→Obj
 | .cells _ t frozen=> .cells (Lib.firstTab.map (Value.int .u8)).toArray t frozen
 | o=>o
noncomputable def X0h(os:Os):World:= { World.holding Tryz.prog os ⟨#[.cells #[.string { data:= #[118,97,108,117,101,32,111,117,116,32,111,102,32,114,97,110,103,101] }] 261, .cells #[.string { data:= #[105,110,118,97,108,105,100,32,115,121,110,116,97,120] }] 261],#[],[]⟩ with heap:=((((((((World.holding Tryz.prog os ⟨#[.cells #[.string { data:= #[118,97,108,117,101,32,111,117,116,32,111,102,32,114,97,110,103,101] }] 261, .cells #[.string { data:= #[105,110,118,97,108,105,100,32,115,121,110,116,97,120] }] 261],#[],[]⟩).heap.modify 6 lput0).modify 7 lput1).modify 5 lput2).modify 1 lput3).modify 4 lput4).modify 3 lput5).modify 0 lput6) }
end Go.Proofs.YtkofnpkopbnocaaGreatDoor
