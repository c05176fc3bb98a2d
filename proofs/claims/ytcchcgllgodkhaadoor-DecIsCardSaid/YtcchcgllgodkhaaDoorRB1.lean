/- Layer 1: the walk of DecIs. -/
import Derived.Test.YtcchcgllgodkhaaDoorRB0
namespace Go.Proofs.YtcchcgllgodkhaaDoor
open Go.RowKit Go.Lib

theorem decIs_walk (s : ByteArray) (c : UInt8) (v1 : Value) (bs : List UInt8) (v2 : Value) (l : List Int) (w : World) (hT : Lib.Utf8Tabs 0 1 w) (hr1 : RBytes w v1 bs) (hr2 : RInts w v2 l) :
    Calls Tryd.prog 3 #[.agg #[.string s], .int .u8 c.toNat, v1, v2] w fun e w' => e = .returned (.bool true) ∧ Below w.heap.size w w' := by
  by_cases h : 100 < s.size ∨ 400 < bs.length ∨ 200 < l.length
  · obtain ⟨p1, c1, rfl⟩ := bytes_form hr1
    obtain ⟨p2, c2, rfl⟩ := ints_form hr2
    exact decIs_long s c.toNat p1 bs.length c1 p2 l.length c2 w hT h
  · exact decIs_short s _ rfl c v1 bs v2 l w hT (by omega) (by omega) (by omega) hr1 hr2
end Go.Proofs.YtcchcgllgodkhaaDoor
