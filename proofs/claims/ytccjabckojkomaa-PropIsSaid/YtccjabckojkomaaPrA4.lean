/- Layer 3: Drops. -/
import Derived.Test.YtccjabckojkomaaPrA2
namespace Go.Proofs.Ytccjabckojkomaa
open Go.RowKit Go.Lib

set_option maxRecDepth 100000 in
set_option maxHeartbeats 1600000 in
theorem drops_any (r : Int) (w : World) :
    Calls Try.prog 13 #[.int .i64 r] w fun e w' => e = .returned (.bool (Prp.drpB r)) ∧ Below w.heap.size w w' := by
  unfold Prp.drpB
  go_enter Try.func13, Try.ntmps13
  go_wp2_with fail
  refine (find_any Prp.dropped Prp.sorted_dropped (by decide) _ r _ (rows_new w _ _ Prp.dropped rfl) 15 rfl).mono ?_
  rintro e w1 ⟨a, b, rfl, hb1⟩
  have hbel := Lib.hid (below_in hb1)
  clear hb1
  go_wp2_with fail
  go_ret
  exact ⟨rfl, hbel.out.trans ((below_new w1 _).mono hbel.out.size)⟩
end Go.Proofs.Ytccjabckojkomaa
