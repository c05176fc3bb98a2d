/- Layer 11: the document's stays. -/
import Derived.Test.YtbkgjbpnogcjeaaClM
import Derived.Test.YtbkgjbpnogcjeaaPrRG
import Derived.Test.YtbkgjbpnogcjeaaBasP
import Derived.Test.YtbkgjbpnogcjeaaClB
namespace Go.Proofs.Ytbkgjbpnogcjeaa
set_option linter.unusedSimpArgs false
set_option linter.unusedVariables false
open Go.RowKit Go.Lib

set_option maxHeartbeats 6400000 in
set_option maxRecDepth 100000 in
theorem rstays_any (a b : Int) (w : World) : Calls Try.prog 35 #[.int .i64 a, .int .i64 b] w fun e w' => e = .returned (.bool (Clu.staysB a b)) ∧ w = w' := by
  obtain ⟨R, hR⟩ : ∃ R, Clu.staysB a b = R := ⟨_, rfl⟩
  rw [hR]
  unfold Clu.staysB at hR
  replace hR := Lib.hid hR
  go_enter Try.func35, Try.ntmps35
  go_wp2_with fail
  all_goals
    go_ret
    refine ⟨ret_bool ?_, rfl⟩
    rw [← hR.out]
    first | (simp [*]; done) | (simp_all; done) | (simp_all; omega) | (simp at *; omega) | (rw [Bool.eq_iff_iff]; simp_all; done) | (rw [Bool.eq_iff_iff]; simp_all; omega)

set_option maxHeartbeats 6400000 in
set_option maxRecDepth 100000 in
theorem rsane11_any (s : Clu.CS) (w : World) : Calls Try.prog 29 #[csV s] w fun e w' => e = .returned (.bool (Clu.saneB s)) ∧ Below w.heap.size w w' := by
  obtain ⟨on, k, p, o⟩ := s
  obtain ⟨R, hR⟩ : ∃ R, Clu.saneB ⟨on, k, p, o⟩ = R := ⟨_, rfl⟩
  rw [hR]
  unfold csV
  dsimp only
  have hb := blk_new w #[.bool on, .int .i64 k, .bool p, .bool o] 24
  unfold Clu.saneB Clu.zero at hR
  replace hR := Lib.hid hR
  clear hb
  rcases on with _ | _ <;> rcases p with _ | _ <;> rcases o with _ | _
  all_goals
    go_enter Try.func29, Try.ntmps29
    go_wp2_with fail
  all_goals
    go_ret
    refine ⟨ret_bool ?_, below_new w _⟩
    rw [← hR.out]
    first | (simp [*]; done) | (simp_all; done) | (simp_all; omega) | (simp at *; omega) | (rw [Bool.eq_iff_iff]; simp_all; done) | (rw [Bool.eq_iff_iff]; simp_all; omega) | (trace_state; sorry)

end Go.Proofs.Ytbkgjbpnogcjeaa
