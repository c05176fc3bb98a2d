/- Layer 11: the document's Ends. -/
import Derived.Test.YtbkgjbpnogcjeaaClR1
import Derived.Test.YtbkgjbpnogcjeaaNoB
namespace Go.Proofs.Ytbkgjbpnogcjeaa
set_option linter.unusedSimpArgs false
set_option linter.unusedVariables false
open Go.RowKit Go.Lib

set_option maxHeartbeats 6400000 in
set_option maxRecDepth 100000 in
theorem rends11_any (s : Clu.CS) (r : Int) (w : World) : Calls Try.prog 27 #[csV s, .int .i64 r] w fun e w' => e = .returned (.bool (Clu.endsI s r)) ∧ Below w.heap.size w w' := by
  have hsane := fun W => rsane11_any s W
  obtain ⟨R, hR⟩ : ∃ R, Clu.endsI s r = R := ⟨_, rfl⟩
  rw [hR]
  unfold Clu.endsI Clu.endsK at hR
  obtain ⟨S, hS⟩ : ∃ S, Clu.saneB s = S := ⟨_, rfl⟩
  rw [hS] at hR hsane
  obtain ⟨g, hg⟩ : ∃ g, Prp.gcbI r = g := ⟨_, rfl⟩
  have hgcb := fun W => rgcb_any r W
  rw [hg] at hR hgcb
  obtain ⟨on, k, p, o⟩ := s
  have hstay := fun W => rstays_any k g W
  obtain ⟨T, hT⟩ : ∃ T, Clu.staysB k g = T := ⟨_, rfl⟩
  rw [hT] at hstay
  dsimp only at hR
  rw [hT] at hR
  unfold csV at hsane ⊢
  dsimp only at hsane ⊢
  have hb := blk_new w #[.bool on, .int .i64 k, .bool p, .bool o] 24
  have hbel := Lib.hid (below_new w (.cells #[.bool on, .int .i64 k, .bool p, .bool o] 24))
  replace hsane := Lib.hid hsane
  replace hgcb := Lib.hid hgcb
  replace hstay := Lib.hid hstay
  replace hR := Lib.hid hR
  clear hS hg hT
  replace hb := Lib.hid hb
  go_enter Try.func27, Try.ntmps27
  go_wp2_with fail
  refine (hsane.out _).mono ?_
  rintro e w1 ⟨rfl, hb1⟩
  have hbx1 := blk_below hb.out hb1
  have b0 := blk_cell hbx1 0 (.bool on) rfl
  replace hb1 := Lib.hid (below_on hbel.out hb1)
  replace hbx1 := Lib.hid hbx1
  clear hb hbel
  rcases S with _ | _
  · go_wp2_with fail
    go_ret
    exact ⟨ret_bool (by rw [← hR.out]; simp), hb1.out⟩
  · rcases on with _ | _
    · go_wp2_with fail
      go_ret
      exact ⟨ret_bool (by rw [← hR.out]; simp), hb1.out⟩
    · go_wp2_with fail
      refine (hgcb.out _).mono ?_
      rintro e w2 ⟨rfl, hb2⟩
      have hbx2 := blk_below hbx1.out hb2
      have c0 := blk_cell hbx2 0 (.bool true) rfl
      have c1 := blk_cell hbx2 1 (.int .i64 k) rfl
      have c2 := blk_cell hbx2 2 (.bool p) rfl
      have c3 := blk_cell hbx2 3 (.bool o) rfl
      replace hb2 := Lib.hid (below_on hb1.out hb2)
      replace hbx2 := Lib.hid hbx2
      clear hb1 hbx1 b0
      go_wp2_with (go_at_call 35; refine (hstay.out _).mono ?_; rintro e w3 ⟨rfl, rfl⟩)
      all_goals
        go_ret
        refine ⟨ret_bool ?_, hb2.out⟩
        rw [← hR.out]
        clear hR hb2 hbx2 c0 c1 c2 c3 hgcb hstay hsane
        first | (simp [*]; done) | (simp_all; done) | (simp_all; omega) | (simp at *; omega) | (rw [Bool.eq_iff_iff]; simp_all; done) | (rw [Bool.eq_iff_iff]; simp_all; omega) | (trace_state; sorry)

end Go.Proofs.Ytbkgjbpnogcjeaa
