/- Layer 12: the document's Sane, End. -/
import Derived.Test.YtbkgjbpnogcjeaaClR3
import Derived.Test.YtbkgjbpnogcjeaaSeM
import Derived.Test.YtbkgjbpnogcjeaaSgB
namespace Go.Proofs.Ytbkgjbpnogcjeaa
set_option linter.unusedSimpArgs false
set_option linter.unusedVariables false
open Go.RowKit Go.Lib

set_option maxHeartbeats 6400000 in
set_option maxRecDepth 100000 in
theorem rsane12_any (v : Value) (l : List Int) (s : Clu.CS) (w : World) (hl : l.length ≤ 100000) (hv : RI w v l) : Calls Try.prog 14 #[sgV v s] w fun e w' => e = .returned (.bool (Sgm.saneB l s)) ∧ Below w.heap.size w w' := by
  obtain ⟨p, cap, rfl⟩ := ri_form hv
  have hsane := fun W => rsane11_any s W
  obtain ⟨R, hR⟩ : ∃ R, Sgm.saneB l s = R := ⟨_, rfl⟩
  rw [hR]
  unfold Sgm.saneB at hR
  obtain ⟨S, hS⟩ : ∃ S, Clu.saneB s = S := ⟨_, rfl⟩
  rw [hS] at hR hsane
  obtain ⟨on, k, pi, o⟩ := s
  have hle : l.isEmpty = decide (l.length = 0) := by cases l <;> simp
  rw [hle] at hR
  obtain ⟨n, hn⟩ : ∃ n, l.length = n := ⟨_, rfl⟩
  rw [hn] at hR hl ⊢
  unfold sgV
  unfold csV at hsane
  dsimp only at hsane hR ⊢
  clear hS hv hle hn
  have h0 : n = 0 ∨ 0 < n := Nat.eq_zero_or_pos n
  have h32 : n ≤ 32 ∨ ¬ n ≤ 32 := by omega
  replace hsane := Lib.hid hsane
  replace hR := Lib.hid hR
  rcases h0 with rfl | h0
  ·
    
    have hb := Lib.hid (blk_new w #[.slice p 0 cap, .bool on, .int .i64 k, .bool pi, .bool o] 26)
    have hbel := Lib.hid (below_new w (.cells #[.slice p 0 cap, .bool on, .int .i64 k, .bool pi, .bool o] 26))
    rcases S with _ | _
    all_goals
      go_enter Try.func14, Try.ntmps14
      go_wp2_with (go_at_call 29; refine (hsane.out _).mono ?_; rintro e w1 ⟨rfl, hb1⟩; have hb1' := Lib.hid (below_on hbel.out hb1); have x1 := blk_below hb.out hb1; have c0 := blk_cell x1 0 (.slice p 0 cap) rfl; have c1 := blk_cell x1 1 (.bool on) rfl; replace x1 := Lib.hid x1)
    all_goals
      go_ret
      refine ⟨ret_bool ?_, by first | exact hb1'.out | exact hbel.out⟩
      rw [← hR.out]
      first | (simp [*]; done) | (simp_all; done) | (simp_all; omega) | (clear hR hsane; cases on <;> simp_all; done) | (clear hR hsane; cases on <;> simp_all <;> omega) | (trace_state; sorry)
  · rcases h32 with h32 | h32
    ·
      
      have hb := Lib.hid (blk_new w #[.slice p n cap, .bool on, .int .i64 k, .bool pi, .bool o] 26)
      have hbel := Lib.hid (below_new w (.cells #[.slice p n cap, .bool on, .int .i64 k, .bool pi, .bool o] 26))
      rcases S with _ | _
      all_goals
        go_enter Try.func14, Try.ntmps14
        go_wp2_with (go_at_call 29; refine (hsane.out _).mono ?_; rintro e w1 ⟨rfl, hb1⟩; have hb1' := Lib.hid (below_on hbel.out hb1); have x1 := blk_below hb.out hb1; have c0 := blk_cell x1 0 (.slice p n cap) rfl; have c1 := blk_cell x1 1 (.bool on) rfl; replace x1 := Lib.hid x1)
      all_goals
        go_ret
        refine ⟨ret_bool ?_, by first | exact hb1'.out | exact hbel.out⟩
        rw [← hR.out]
        first | (simp [*]; done) | (simp_all; done) | (simp_all; omega) | (clear hR hsane; cases on <;> simp_all; done) | (clear hR hsane; cases on <;> simp_all <;> omega) | (trace_state; sorry)
    ·
      
      have hb := Lib.hid (blk_new w #[.slice p n cap, .bool on, .int .i64 k, .bool pi, .bool o] 26)
      have hbel := Lib.hid (below_new w (.cells #[.slice p n cap, .bool on, .int .i64 k, .bool pi, .bool o] 26))
      rcases S with _ | _
      all_goals
        go_enter Try.func14, Try.ntmps14
        go_wp2_with (go_at_call 29; refine (hsane.out _).mono ?_; rintro e w1 ⟨rfl, hb1⟩; have hb1' := Lib.hid (below_on hbel.out hb1); have x1 := blk_below hb.out hb1; have c0 := blk_cell x1 0 (.slice p n cap) rfl; have c1 := blk_cell x1 1 (.bool on) rfl; replace x1 := Lib.hid x1)
      all_goals
        go_ret
        refine ⟨ret_bool ?_, by first | exact hb1'.out | exact hbel.out⟩
        rw [← hR.out]
        first | (simp [*]; done) | (simp_all; done) | (simp_all; omega) | (clear hR hsane; cases on <;> simp_all; done) | (clear hR hsane; cases on <;> simp_all <;> omega) | (trace_state; sorry)

set_option maxHeartbeats 6400000 in
set_option maxRecDepth 100000 in
/-- what End tells: the very slice that is kept, or nil -/
theorem rend12_any (v : Value) (l : List Int) (s : Clu.CS) (w : World) (hl : l.length ≤ 100000) (hv : RI w v l) : Calls Try.prog 18 #[sgV v s] w fun e w' => e = .returned (if Sgm.saneB l s = true then v else .slice none 0 0) ∧ Below w.heap.size w w' := by
  obtain ⟨p, cap, rfl⟩ := ri_form hv
  have hsane := fun W (hW : RI W (.slice p l.length cap) l) => rsane12_any _ l s W hl hW
  obtain ⟨S, hS⟩ : ∃ S, Sgm.saneB l s = S := ⟨_, rfl⟩
  rw [hS] at hsane ⊢
  obtain ⟨on, k, pi, o⟩ := s
  have hv1 := Lib.hid (ri_below hv (below_new w (.cells #[.slice p l.length cap, .bool on, .int .i64 k, .bool pi, .bool o] 26)))
  obtain ⟨n, hn⟩ : ∃ n, l.length = n := ⟨_, rfl⟩
  rw [hn] at hsane hv1 ⊢
  unfold sgV at hsane ⊢
  dsimp only at hsane ⊢
  have hb := Lib.hid (blk_new w #[.slice p n cap, .bool on, .int .i64 k, .bool pi, .bool o] 26)
  have hbel := Lib.hid (below_new w (.cells #[.slice p n cap, .bool on, .int .i64 k, .bool pi, .bool o] 26))
  replace hsane := Lib.hid hsane
  clear hS hv hn
  go_enter Try.func18, Try.ntmps18
  go_wp2_with fail
  refine (hsane.out _ hv1.out).mono ?_
  rintro e w1 ⟨rfl, hb1⟩
  have x1 := blk_below hb.out hb1
  have c0 := blk_cell x1 0 (.slice p n cap) rfl
  replace hb1 := Lib.hid (below_on hbel.out hb1)
  replace x1 := Lib.hid x1
  rcases S with _ | _
  · go_wp2_with fail
    go_ret
    exact ⟨rfl, hb1.out⟩
  · go_wp2_with fail
    go_ret
    exact ⟨rfl, hb1.out⟩

end Go.Proofs.Ytbkgjbpnogcjeaa
