/- Layer 12: the code's Sane. -/
import Derived.Test.YtbkgjbpnogcjeaaClA3
import Derived.Test.YtbkgjbpnogcjeaaSgS
import Derived.Test.YtbkgjbpnogcjeaaNoB
namespace Go.Proofs.Ytbkgjbpnogcjeaa
set_option linter.unusedSimpArgs false
set_option linter.unusedVariables false
open Go.RowKit Go.Lib

set_option maxHeartbeats 6400000 in
set_option maxRecDepth 100000 in
theorem sane12_any (v : Value) (l : List Int) (s : Clu.CS) (w : World) (hl : l.length ≤ 100000) (hv : RI w v l) : Calls Try.prog 13 #[sgV v s] w fun e w' => e = .returned (.bool (Sgm.saneB l s)) ∧ Below w.heap.size w w' := by
  obtain ⟨p, cap, rfl⟩ := ri_form hv
  have hsane := fun W => csane_any s W
  obtain ⟨R, hR⟩ : ∃ R, Sgm.saneB l s = R := ⟨_, rfl⟩
  rw [hR]
  unfold Sgm.saneB at hR
  obtain ⟨S, hS⟩ : ∃ S, Clu.saneB s = S := ⟨_, rfl⟩
  rw [hS] at hR hsane
  obtain ⟨on, k, pi, o⟩ := s
  have hle : l.isEmpty = decide (l.length = 0) := by cases l <;> simp
  rw [hle] at hR
  obtain ⟨n, hn⟩ : ∃ n, l.length = n := ⟨_, rfl⟩
  rw [hn] at hR hl ⊢
  unfold sgV
  unfold csV at hsane
  dsimp only at hsane hR ⊢
  clear hS hv hle hn
  have h0 : n = 0 ∨ 0 < n := Nat.eq_zero_or_pos n
  have h32 : n ≤ 32 ∨ ¬ n ≤ 32 := by omega
  replace hsane := Lib.hid hsane
  replace hR := Lib.hid hR
  rcases h0 with rfl | h0
  ·
    
    have hb := Lib.hid (blk_new w #[.slice p 0 cap, .bool on, .int .i64 k, .bool pi, .bool o] 30)
    have hbel := Lib.hid (below_new w (.cells #[.slice p 0 cap, .bool on, .int .i64 k, .bool pi, .bool o] 30))
    rcases S with _ | _
    all_goals
      go_enter Try.func13, Try.ntmps13
      go_wp2_with (go_at_call 28; refine (hsane.out _).mono ?_; rintro e w1 ⟨rfl, hb1⟩; have hb1' := Lib.hid (below_on hbel.out hb1); have x1 := blk_below hb.out hb1; have c0 := blk_cell x1 0 (.slice p 0 cap) rfl; have c1 := blk_cell x1 1 (.bool on) rfl; replace x1 := Lib.hid x1)
    all_goals
      go_ret
      refine ⟨ret_bool ?_, by first | exact hb1'.out | exact hbel.out⟩
      rw [← hR.out]
      first | (simp [*]; done) | (simp_all; done) | (simp_all; omega) | (clear hR hsane; cases on <;> simp_all; done) | (clear hR hsane; cases on <;> simp_all <;> omega) | (trace_state; sorry)
  · rcases h32 with h32 | h32
    ·
      
      have hb := Lib.hid (blk_new w #[.slice p n cap, .bool on, .int .i64 k, .bool pi, .bool o] 30)
      have hbel := Lib.hid (below_new w (.cells #[.slice p n cap, .bool on, .int .i64 k, .bool pi, .bool o] 30))
      rcases S with _ | _
      all_goals
        go_enter Try.func13, Try.ntmps13
        go_wp2_with (go_at_call 28; refine (hsane.out _).mono ?_; rintro e w1 ⟨rfl, hb1⟩; have hb1' := Lib.hid (below_on hbel.out hb1); have x1 := blk_below hb.out hb1; have c0 := blk_cell x1 0 (.slice p n cap) rfl; have c1 := blk_cell x1 1 (.bool on) rfl; replace x1 := Lib.hid x1)
      all_goals
        go_ret
        refine ⟨ret_bool ?_, by first | exact hb1'.out | exact hbel.out⟩
        rw [← hR.out]
        first | (simp [*]; done) | (simp_all; done) | (simp_all; omega) | (clear hR hsane; cases on <;> simp_all; done) | (clear hR hsane; cases on <;> simp_all <;> omega) | (trace_state; sorry)
    ·
      
      have hb := Lib.hid (blk_new w #[.slice p n cap, .bool on, .int .i64 k, .bool pi, .bool o] 30)
      have hbel := Lib.hid (below_new w (.cells #[.slice p n cap, .bool on, .int .i64 k, .bool pi, .bool o] 30))
      rcases S with _ | _
      all_goals
        go_enter Try.func13, Try.ntmps13
        go_wp2_with (go_at_call 28; refine (hsane.out _).mono ?_; rintro e w1 ⟨rfl, hb1⟩; have hb1' := Lib.hid (below_on hbel.out hb1); have x1 := blk_below hb.out hb1; have c0 := blk_cell x1 0 (.slice p n cap) rfl; have c1 := blk_cell x1 1 (.bool on) rfl; replace x1 := Lib.hid x1)
      all_goals
        go_ret
        refine ⟨ret_bool ?_, by first | exact hb1'.out | exact hbel.out⟩
        rw [← hR.out]
        first | (simp [*]; done) | (simp_all; done) | (simp_all; omega) | (clear hR hsane; cases on <;> simp_all; done) | (clear hR hsane; cases on <;> simp_all <;> omega) | (trace_state; sorry)

end Go.Proofs.Ytbkgjbpnogcjeaa
