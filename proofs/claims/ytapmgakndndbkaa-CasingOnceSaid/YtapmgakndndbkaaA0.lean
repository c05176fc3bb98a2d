/- The contract of Good. -/
import Derived.Test.YtapmgakndndbkaaG0
import Derived.Test.YtapmgakndndbkaaM0
namespace Go.Proofs.Ytapmgakndndbkaa
open Go.RowKit Go.Lib

set_option maxHeartbeats 400000 in
theorem good_any (r : Int) (w : World) :
    Calls Try.prog 13 #[.int .i64 r] w fun e w' => e = .returned (.bool (Dec.goodB r)) ∧ w = w' := by
  by_cases h0 : 0 ≤ r
  · by_cases h1 : r ≤ 1114111
    · by_cases h2 : r < 55296
      all_goals
        go_enter Try.func13, Try.ntmps13
        go_wp2
        go_ret
        exact ⟨ret_bool (by unfold Dec.goodB; grind), rfl⟩
    · go_enter Try.func13, Try.ntmps13
      go_wp2
      go_ret
      exact ⟨ret_bool (by unfold Dec.goodB; grind), rfl⟩
  · go_enter Try.func13, Try.ntmps13
    go_wp2
    go_ret
    exact ⟨ret_bool (by unfold Dec.goodB; grind), rfl⟩

end Go.Proofs.Ytapmgakndndbkaa
