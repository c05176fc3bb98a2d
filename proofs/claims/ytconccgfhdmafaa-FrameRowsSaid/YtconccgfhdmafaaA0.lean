/- The contract of Good. -/
import Derived.Test.YtconccgfhdmafaaBasP
import Derived.Test.YtconccgfhdmafaaM0
namespace Go.Proofs.Ytconccgfhdmafaa
set_option linter.unusedSimpArgs false
set_option linter.unusedVariables false
open Go.RowKit Go.Lib

set_option maxHeartbeats 400000 in
theorem good_any (r : Int) (w : World) :
    Calls Try.prog 42 #[.int .i64 r] w fun e w' => e = .returned (.bool (Dec.goodB r)) ∧ w = w' := by
  by_cases h0 : 0 ≤ r
  · by_cases h1 : r ≤ 1114111
    · by_cases h2 : r < 55296
      all_goals
        go_enter Try.func42, Try.ntmps42
        go_wp2
        go_ret
        exact ⟨ret_bool (by unfold Dec.goodB; grind), rfl⟩
    · go_enter Try.func42, Try.ntmps42
      go_wp2
      go_ret
      exact ⟨ret_bool (by unfold Dec.goodB; grind), rfl⟩
  · go_enter Try.func42, Try.ntmps42
    go_wp2
    go_ret
    exact ⟨ret_bool (by unfold Dec.goodB; grind), rfl⟩

end Go.Proofs.Ytconccgfhdmafaa
