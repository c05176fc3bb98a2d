/- Layer 11: the document's stays. -/
import Derived.Test.YtodckdlanlgkeaaClM
import Derived.Test.YtodckdlanlgkeaaPrRG
import Derived.Test.YtodckdlanlgkeaaBasP
import Derived.Test.YtodckdlanlgkeaaClB
namespace Go.Proofs.Ytodckdlanlgkeaa
set_option linter.unusedSimpArgs false
set_option linter.unusedVariables false
open Go.RowKit Go.Lib

set_option maxHeartbeats 6400000 in
set_option maxRecDepth 100000 in
theorem rstays_any (a b : Int) (w : World) : Calls Try.prog 26 #[.int .i64 a, .int .i64 b] w fun e w' => e = .returned (.bool (Clu.staysB a b)) ∧ w = w' := by
  obtain ⟨R, hR⟩ : ∃ R, Clu.staysB a b = R := ⟨_, rfl⟩
  rw [hR]
  unfold Clu.staysB at hR
  replace hR := Lib.hid hR
  go_enter Try.func26, Try.ntmps26
  go_wp2_with fail
  all_goals
    go_ret
    refine ⟨ret_bool ?_, rfl⟩
    rw [← hR.out]
    first | (simp [*]; done) | (simp_all; done) | (simp_all; omega) | (simp at *; omega) | (rw [Bool.eq_iff_iff]; simp_all; done) | (rw [Bool.eq_iff_iff]; simp_all; omega)

set_option maxHeartbeats 6400000 in
set_option maxRecDepth 100000 in
theorem rsane11_any (s : Clu.CS) (w : World) : Calls Try.prog 12 #[csV s] w fun e w' => e = .returned (.bool (Clu.saneB s)) ∧ Below w.heap.size w w' := by
  obtain ⟨on, k, p, o⟩ := s
  obtain ⟨R, hR⟩ : ∃ R, Clu.saneB ⟨on, k, p, o⟩ = R := ⟨_, rfl⟩
  rw [hR]
  unfold csV
  dsimp only
  have hb := blk_new w #[.bool on, .int .i64 k, .bool p, .bool o] 23
  unfold Clu.saneB Clu.zero at hR
  replace hR := Lib.hid hR
  clear hb
  rcases on with _ | _ <;> rcases p with _ | _ <;> rcases o with _ | _
  all_goals
    go_enter Try.func12, Try.ntmps12
    go_wp2_with fail
  all_goals
    go_ret
    refine ⟨ret_bool ?_, below_new w _⟩
    rw [← hR.out]
    first | (simp [*]; done) | (simp_all; done) | (simp_all; omega) | (simp at *; omega) | (rw [Bool.eq_iff_iff]; simp_all; done) | (rw [Bool.eq_iff_iff]; simp_all; omega) | (trace_state; sorry)

end Go.Proofs.Ytodckdlanlgkeaa
