/- Texts that stand together. -/
import Derived.Test.YtiidjkhkcckmkaaGreatDoorMatP
import Derived.Test.YtiidjkhkcckmkaaGreatDoorPrRQ
import Derived.Test.YtiidjkhkcckmkaaGreatDoorBasP
import Derived.Test.YtiidjkhkcckmkaaGreatDoorBasQ
import Derived.Test.YtiidjkhkcckmkaaGreatDoorKP
import Derived.Deep.RegionHeld
import Derived.OrdersHeld
/- Layer 11: the document's stays. -/
namespace Go.Proofs.YtiidjkhkcckmkaaGreatDoor
set_option linter.unusedSimpArgs false
set_option linter.unusedVariables false
open Go.RowKit Go.Lib
set_option maxHeartbeats 6400000 in
set_option maxRecDepth 100000 in
theorem rstays_any (a b : Int) (w : World) : Calls Tryz.prog 112 #[.int .i64 a, .int .i64 b] w fun e w' => e = .returned (.bool (Clu.staysB a b)) ∧ w = w' := by
  obtain ⟨R, hR⟩ : ∃ R, Clu.staysB a b = R := ⟨_, rfl⟩
  rw [hR]
  unfold Clu.staysB at hR
  replace hR := Lib.hid hR
  go_enter Tryz.func112, Tryz.ntmps112
  go_wp2_with fail
  all_goals
    go_ret
    refine ⟨ret_bool ?_, rfl⟩
    rw [← hR.out]
    first | (simp [*]; done) | (simp_all; done) | (simp_all; omega) | (simp at *; omega) | (rw [Bool.eq_iff_iff]; simp_all; done) | (rw [Bool.eq_iff_iff]; simp_all; omega)
set_option maxHeartbeats 6400000 in
set_option maxRecDepth 100000 in
theorem rsane11_any (s : Clu.CS) (w : World) : Calls Tryz.prog 86 #[csV s] w fun e w' => e = .returned (.bool (Clu.saneB s)) ∧ Below w.heap.size w w' := by
  obtain ⟨on, k, p, o⟩ := s
  obtain ⟨R, hR⟩ : ∃ R, Clu.saneB ⟨on, k, p, o⟩ = R := ⟨_, rfl⟩
  rw [hR]
  unfold csV
  dsimp only
  have hb := blk_new w #[.bool on, .int .i64 k, .bool p, .bool o] 28
  unfold Clu.saneB Clu.zero at hR
  replace hR := Lib.hid hR
  clear hb
  rcases on with _ | _ <;> rcases p with _ | _ <;> rcases o with _ | _
  all_goals
    go_enter Tryz.func86, Tryz.ntmps86
    go_wp2_with fail
  all_goals
    go_ret
    refine ⟨ret_bool ?_, below_new w _⟩
    rw [← hR.out]
    first | (simp [*]; done) | (simp_all; done) | (simp_all; omega) | (simp at *; omega) | (rw [Bool.eq_iff_iff]; simp_all; done) | (rw [Bool.eq_iff_iff]; simp_all; omega) | (trace_state; sorry)
end Go.Proofs.YtiidjkhkcckmkaaGreatDoor

/- Layer 11: the document's Ends. -/
namespace Go.Proofs.YtiidjkhkcckmkaaGreatDoor
set_option linter.unusedSimpArgs false
set_option linter.unusedVariables false
open Go.RowKit Go.Lib
set_option maxHeartbeats 6400000 in
set_option maxRecDepth 100000 in
theorem rends11_any (s : Clu.CS) (r : Int) (w : World) : Calls Tryz.prog 70 #[csV s, .int .i64 r] w fun e w' => e = .returned (.bool (Clu.endsI s r)) ∧ Below w.heap.size w w' := by
  have hsane := fun W => rsane11_any s W
  obtain ⟨R, hR⟩ : ∃ R, Clu.endsI s r = R := ⟨_, rfl⟩
  rw [hR]
  unfold Clu.endsI Clu.endsK at hR
  obtain ⟨S, hS⟩ : ∃ S, Clu.saneB s = S := ⟨_, rfl⟩
  rw [hS] at hR hsane
  obtain ⟨g, hg⟩ : ∃ g, Prp.gcbI r = g := ⟨_, rfl⟩
  have hgcb := fun W => rgcb_any r W
  rw [hg] at hR hgcb
  obtain ⟨on, k, p, o⟩ := s
  have hstay := fun W => rstays_any k g W
  obtain ⟨T, hT⟩ : ∃ T, Clu.staysB k g = T := ⟨_, rfl⟩
  rw [hT] at hstay
  dsimp only at hR
  rw [hT] at hR
  unfold csV at hsane ⊢
  dsimp only at hsane ⊢
  have hb := blk_new w #[.bool on, .int .i64 k, .bool p, .bool o] 28
  have hbel := Lib.hid (below_new w (.cells #[.bool on, .int .i64 k, .bool p, .bool o] 28))
  replace hsane := Lib.hid hsane
  replace hgcb := Lib.hid hgcb
  replace hstay := Lib.hid hstay
  replace hR := Lib.hid hR
  clear hS hg hT
  replace hb := Lib.hid hb
  go_enter Tryz.func70, Tryz.ntmps70
  go_wp2_with fail
  refine (hsane.out _).mono ?_
  rintro e w1 ⟨rfl, hb1⟩
  have hbx1 := blk_below hb.out hb1
  have b0 := blk_cell hbx1 0 (.bool on) rfl
  replace hb1 := Lib.hid (below_on hbel.out hb1)
  replace hbx1 := Lib.hid hbx1
  clear hb hbel
  rcases S with _ | _
  · go_wp2_with fail
    go_ret
    exact ⟨ret_bool (by rw [← hR.out]; simp), hb1.out⟩
  · rcases on with _ | _
    · go_wp2_with fail
      go_ret
      exact ⟨ret_bool (by rw [← hR.out]; simp), hb1.out⟩
    · go_wp2_with fail
      refine (hgcb.out _).mono ?_
      rintro e w2 ⟨rfl, hb2⟩
      have hbx2 := blk_below hbx1.out hb2
      have c0 := blk_cell hbx2 0 (.bool true) rfl
      have c1 := blk_cell hbx2 1 (.int .i64 k) rfl
      have c2 := blk_cell hbx2 2 (.bool p) rfl
      have c3 := blk_cell hbx2 3 (.bool o) rfl
      replace hb2 := Lib.hid (below_on hb1.out hb2)
      replace hbx2 := Lib.hid hbx2
      clear hb1 hbx1 b0
      go_wp2_with (go_at_call 112; refine (hstay.out _).mono ?_; rintro e w3 ⟨rfl, rfl⟩)
      all_goals
        go_ret
        refine ⟨ret_bool ?_, hb2.out⟩
        rw [← hR.out]
        clear hR hb2 hbx2 c0 c1 c2 c3 hgcb hstay hsane
        first | (simp [*]; done) | (simp_all; done) | (simp_all; omega) | (simp at *; omega) | (rw [Bool.eq_iff_iff]; simp_all; done) | (rw [Bool.eq_iff_iff]; simp_all; omega) | (trace_state; sorry)
end Go.Proofs.YtiidjkhkcckmkaaGreatDoor

/- Layer 11: the document's Next. -/
namespace Go.Proofs.YtiidjkhkcckmkaaGreatDoor
set_option linter.unusedSimpArgs false
set_option linter.unusedVariables false
open Go.RowKit Go.Lib
set_option maxHeartbeats 6400000 in
set_option maxRecDepth 100000 in
theorem rnext11_any (s : Clu.CS) (r : Int) (w : World) : Calls Tryz.prog 69 #[csV s, .int .i64 r] w fun e w' => e = .returned (csV (Clu.nextI s r)) ∧ Below w.heap.size w w' := by
  have hsane := fun W => rsane11_any s W
  obtain ⟨R, hR⟩ : ∃ R, Clu.nextI s r = R := ⟨_, rfl⟩
  rw [hR]
  unfold Clu.nextI Clu.nextK at hR
  obtain ⟨S, hS⟩ : ∃ S, Clu.saneB s = S := ⟨_, rfl⟩
  rw [hS] at hR hsane
  obtain ⟨g, hg⟩ : ∃ g, Prp.gcbI r = g := ⟨_, rfl⟩
  have hgcb := fun W => rgcb_any r W
  rw [hg] at hR hgcb
  obtain ⟨on, k, p, o⟩ := s
  dsimp only at hR
  unfold csV at hsane ⊢
  dsimp only at hsane ⊢
  have hb0 := blk_new w #[.bool on, .int .i64 k, .bool p, .bool o] 28
  have hb := blk_alloc hb0 (.cells #[.bool false, .int .i64 0, .bool false, .bool false] 28)
  have hres := blk_new (w.alloc (.cells #[.bool on, .int .i64 k, .bool p, .bool o] 28)) #[.bool false, .int .i64 0, .bool false, .bool false] 28
  rw [show (w.alloc (.cells #[.bool on, .int .i64 k, .bool p, .bool o] 28)).heap.size = w.heap.size + 1 by simp] at hres
  have hbel : Below w.heap.size w ((w.alloc (.cells #[.bool on, .int .i64 k, .bool p, .bool o] 28)).alloc (.cells #[.bool false, .int .i64 0, .bool false, .bool false] 28)) := (below_new w _).alloc (by simp) _
  replace hbel := Lib.hid hbel
  replace hres := Lib.hid hres
  clear hb0
  replace hsane := Lib.hid hsane
  replace hgcb := Lib.hid hgcb
  replace hR := Lib.hid hR
  clear hS hg
  replace hb := Lib.hid hb
  go_enter Tryz.func69, Tryz.ntmps69
  go_wp2_with fail
  refine (hsane.out _).mono ?_
  rintro e w1 ⟨rfl, hb1⟩
  have hbx1 := blk_below hb.out hb1
  have hrs1 := Lib.hid (blk_below hres.out hb1)
  have b0 := blk_cell hbx1 0 (.bool on) rfl
  have b1 := blk_cell hbx1 1 (.int .i64 k) rfl
  have b2 := blk_cell hbx1 2 (.bool p) rfl
  have b3 := blk_cell hbx1 3 (.bool o) rfl
  replace hb1 := Lib.hid (below_on hbel.out hb1)
  have f0 := blk_thaw hbx1 0
  have f1 := blk_thaw hbx1 1
  have f2 := blk_thaw hbx1 2
  have f3 := blk_thaw hbx1 3
  replace hbx1 := Lib.hid hbx1
  clear hb hbel hres
  rcases S with _ | _
  · have hbx3 := Lib.hid (blk_set4 hbx1.out (.bool false) (.int .i64 0) (.bool false) (.bool false))
    have hrs3 := Lib.hid (blk_other4 (j := w.heap.size) hrs1.out (.bool false) (.int .i64 0) (.bool false) (.bool false) (by omega))
    have hb3 := Lib.hid (below_set4 hb1.out (Nat.le_refl _) (.bool false) (.int .i64 0) (.bool false) (.bool false))
    go_wp2_with fail
    clear f0 f1 f2 f3
    
    refine (hgcb.out _).mono ?_
    rintro e w2 ⟨rfl, hb2⟩
    have hbx2 := blk_below hbx3.out hb2
    have hrs2 := blk_below hrs3.out hb2
    have f0 := blk_thaw hrs2 0
    have f1 := blk_thaw hrs2 1
    have f2 := blk_thaw hrs2 2
    have f3 := blk_thaw hrs2 3
    have d0 := blk_cell hrs2 0 (.bool false) rfl
    have d1 := blk_cell hrs2 1 (.int .i64 0) rfl
    have d2 := blk_cell hrs2 2 (.bool false) rfl
    have d3 := blk_cell hrs2 3 (.bool false) rfl
    have c0 := blk_cell hbx2 0 (.bool false) rfl
    have c1 := blk_cell hbx2 1 (.int .i64 0) rfl
    have c2 := blk_cell hbx2 2 (.bool false) rfl
    have c3 := blk_cell hbx2 3 (.bool false) rfl
    replace hb2 := Lib.hid (below_on hb3.out hb2)
    clear b0 b1 b2 b3 hbx2
    clear hb1 hbx1 hrs1 hb3 hbx3 hrs3
    replace hrs2 := Lib.hid hrs2
    go_wp2_with fail
    all_goals
      refine bodyPost_ret (v := .agg #[.bool R.on, .int .i64 R.kind, .bool R.pict, .bool R.odd]) ?_ rfl ⟨rfl, below_set4 hb2.out (Nat.le_succ _) _ _ _ _⟩
      have q0 := fun x0 x1 x2 x3 => (set4_cell hrs2.out x0 x1 x2 x3).1
      have q1 := fun x0 x1 x2 x3 => (set4_cell hrs2.out x0 x1 x2 x3).2.1
      have q2 := fun x0 x1 x2 x3 => (set4_cell hrs2.out x0 x1 x2 x3).2.2.1
      have q3 := fun x0 x1 x2 x3 => (set4_cell hrs2.out x0 x1 x2 x3).2.2.2
      rw [← hR.out]
      clear hR hb2 hrs2 c0 c1 c2 c3 d0 d1 d2 d3 f0 f1 f2 f3 hgcb hsane
      simp [results, Tryz.results69, go_sem, q0, q1, q2, q3]
      clear q0 q1 q2 q3
      have bne5 : (k != 5) = !decide (k = 5) := by rw [Bool.eq_iff_iff]; simp
      all_goals first | (simp [*]; done) | (simp_all; done) | (simp_all; omega) | (simp_all [Clu.zero, bne5]; done) | (simp_all [Clu.zero, bne5]; omega) | (trace_state; sorry)
  · clear f0 f1 f2 f3
    go_wp2_with fail
    
    refine (hgcb.out _).mono ?_
    rintro e w2 ⟨rfl, hb2⟩
    have hbx2 := blk_below hbx1.out hb2
    have hrs2 := blk_below hrs1.out hb2
    have f0 := blk_thaw hrs2 0
    have f1 := blk_thaw hrs2 1
    have f2 := blk_thaw hrs2 2
    have f3 := blk_thaw hrs2 3
    have d0 := blk_cell hrs2 0 (.bool false) rfl
    have d1 := blk_cell hrs2 1 (.int .i64 0) rfl
    have d2 := blk_cell hrs2 2 (.bool false) rfl
    have d3 := blk_cell hrs2 3 (.bool false) rfl
    have c0 := blk_cell hbx2 0 (.bool on) rfl
    have c1 := blk_cell hbx2 1 (.int .i64 k) rfl
    have c2 := blk_cell hbx2 2 (.bool p) rfl
    have c3 := blk_cell hbx2 3 (.bool o) rfl
    replace hb2 := Lib.hid (below_on hb1.out hb2)
    clear b0 b1 b2 b3 hbx2
    clear hb1 hbx1 hrs1
    replace hrs2 := Lib.hid hrs2
    go_wp2_with fail
    all_goals
      refine bodyPost_ret (v := .agg #[.bool R.on, .int .i64 R.kind, .bool R.pict, .bool R.odd]) ?_ rfl ⟨rfl, below_set4 hb2.out (Nat.le_succ _) _ _ _ _⟩
      have q0 := fun x0 x1 x2 x3 => (set4_cell hrs2.out x0 x1 x2 x3).1
      have q1 := fun x0 x1 x2 x3 => (set4_cell hrs2.out x0 x1 x2 x3).2.1
      have q2 := fun x0 x1 x2 x3 => (set4_cell hrs2.out x0 x1 x2 x3).2.2.1
      have q3 := fun x0 x1 x2 x3 => (set4_cell hrs2.out x0 x1 x2 x3).2.2.2
      rw [← hR.out]
      clear hR hb2 hrs2 c0 c1 c2 c3 d0 d1 d2 d3 f0 f1 f2 f3 hgcb hsane
      simp [results, Tryz.results69, go_sem, q0, q1, q2, q3]
      clear q0 q1 q2 q3
      have bne5 : (k != 5) = !decide (k = 5) := by rw [Bool.eq_iff_iff]; simp
      all_goals first | (simp [*]; done) | (simp_all; done) | (simp_all; omega) | (simp_all [Clu.zero, bne5]; done) | (simp_all [Clu.zero, bne5]; omega) | (trace_state; sorry)
end Go.Proofs.YtiidjkhkcckmkaaGreatDoor

/- Layer 12: the document's Sane, End. -/
namespace Go.Proofs.YtiidjkhkcckmkaaGreatDoor
set_option linter.unusedSimpArgs false
set_option linter.unusedVariables false
open Go.RowKit Go.Lib
set_option maxHeartbeats 6400000 in
set_option maxRecDepth 100000 in
theorem rsane12_any (v : Value) (l : List Int) (s : Clu.CS) (w : World) (hl : l.length ≤ 100000) (hv : RI w v l) : Calls Tryz.prog 53 #[sgV v s] w fun e w' => e = .returned (.bool (Sgm.saneB l s)) ∧ Below w.heap.size w w' := by
  obtain ⟨p, cap, rfl⟩ := ri_form hv
  have hsane := fun W => rsane11_any s W
  obtain ⟨R, hR⟩ : ∃ R, Sgm.saneB l s = R := ⟨_, rfl⟩
  rw [hR]
  unfold Sgm.saneB at hR
  obtain ⟨S, hS⟩ : ∃ S, Clu.saneB s = S := ⟨_, rfl⟩
  rw [hS] at hR hsane
  obtain ⟨on, k, pi, o⟩ := s
  have hle : l.isEmpty = decide (l.length = 0) := by cases l <;> simp
  rw [hle] at hR
  obtain ⟨n, hn⟩ : ∃ n, l.length = n := ⟨_, rfl⟩
  rw [hn] at hR hl ⊢
  unfold sgV
  unfold csV at hsane
  dsimp only at hsane hR ⊢
  clear hS hv hle hn
  have h0 : n = 0 ∨ 0 < n := Nat.eq_zero_or_pos n
  have h32 : n ≤ 32 ∨ ¬ n ≤ 32 := by omega
  replace hsane := Lib.hid hsane
  replace hR := Lib.hid hR
  rcases h0 with rfl | h0
  ·
    
    have hb := Lib.hid (blk_new w #[.slice p 0 cap, .bool on, .int .i64 k, .bool pi, .bool o] 30)
    have hbel := Lib.hid (below_new w (.cells #[.slice p 0 cap, .bool on, .int .i64 k, .bool pi, .bool o] 30))
    rcases S with _ | _
    all_goals
      go_enter Tryz.func53, Tryz.ntmps53
      go_wp2_with (go_at_call 86; refine (hsane.out _).mono ?_; rintro e w1 ⟨rfl, hb1⟩; have hb1' := Lib.hid (below_on hbel.out hb1); have x1 := blk_below hb.out hb1; have c0 := blk_cell x1 0 (.slice p 0 cap) rfl; have c1 := blk_cell x1 1 (.bool on) rfl; replace x1 := Lib.hid x1)
    all_goals
      go_ret
      refine ⟨ret_bool ?_, by first | exact hb1'.out | exact hbel.out⟩
      rw [← hR.out]
      first | (simp [*]; done) | (simp_all; done) | (simp_all; omega) | (clear hR hsane; cases on <;> simp_all; done) | (clear hR hsane; cases on <;> simp_all <;> omega) | (trace_state; sorry)
  · rcases h32 with h32 | h32
    ·
      
      have hb := Lib.hid (blk_new w #[.slice p n cap, .bool on, .int .i64 k, .bool pi, .bool o] 30)
      have hbel := Lib.hid (below_new w (.cells #[.slice p n cap, .bool on, .int .i64 k, .bool pi, .bool o] 30))
      rcases S with _ | _
      all_goals
        go_enter Tryz.func53, Tryz.ntmps53
        go_wp2_with (go_at_call 86; refine (hsane.out _).mono ?_; rintro e w1 ⟨rfl, hb1⟩; have hb1' := Lib.hid (below_on hbel.out hb1); have x1 := blk_below hb.out hb1; have c0 := blk_cell x1 0 (.slice p n cap) rfl; have c1 := blk_cell x1 1 (.bool on) rfl; replace x1 := Lib.hid x1)
      all_goals
        go_ret
        refine ⟨ret_bool ?_, by first | exact hb1'.out | exact hbel.out⟩
        rw [← hR.out]
        first | (simp [*]; done) | (simp_all; done) | (simp_all; omega) | (clear hR hsane; cases on <;> simp_all; done) | (clear hR hsane; cases on <;> simp_all <;> omega) | (trace_state; sorry)
    ·
      
      have hb := Lib.hid (blk_new w #[.slice p n cap, .bool on, .int .i64 k, .bool pi, .bool o] 30)
      have hbel := Lib.hid (below_new w (.cells #[.slice p n cap, .bool on, .int .i64 k, .bool pi, .bool o] 30))
      rcases S with _ | _
      all_goals
        go_enter Tryz.func53, Tryz.ntmps53
        go_wp2_with (go_at_call 86; refine (hsane.out _).mono ?_; rintro e w1 ⟨rfl, hb1⟩; have hb1' := Lib.hid (below_on hbel.out hb1); have x1 := blk_below hb.out hb1; have c0 := blk_cell x1 0 (.slice p n cap) rfl; have c1 := blk_cell x1 1 (.bool on) rfl; replace x1 := Lib.hid x1)
      all_goals
        go_ret
        refine ⟨ret_bool ?_, by first | exact hb1'.out | exact hbel.out⟩
        rw [← hR.out]
        first | (simp [*]; done) | (simp_all; done) | (simp_all; omega) | (clear hR hsane; cases on <;> simp_all; done) | (clear hR hsane; cases on <;> simp_all <;> omega) | (trace_state; sorry)
set_option maxHeartbeats 6400000 in
set_option maxRecDepth 100000 in
theorem rend12_any (v : Value) (l : List Int) (s : Clu.CS) (w : World) (hl : l.length ≤ 100000) (hv : RI w v l) : Calls Tryz.prog 46 #[sgV v s] w fun e w' => e = .returned (if Sgm.saneB l s = true then v else .slice none 0 0) ∧ Below w.heap.size w w' := by
  obtain ⟨p, cap, rfl⟩ := ri_form hv
  have hsane := fun W (hW : RI W (.slice p l.length cap) l) => rsane12_any _ l s W hl hW
  obtain ⟨S, hS⟩ : ∃ S, Sgm.saneB l s = S := ⟨_, rfl⟩
  rw [hS] at hsane ⊢
  obtain ⟨on, k, pi, o⟩ := s
  have hv1 := Lib.hid (ri_below hv (below_new w (.cells #[.slice p l.length cap, .bool on, .int .i64 k, .bool pi, .bool o] 30)))
  obtain ⟨n, hn⟩ : ∃ n, l.length = n := ⟨_, rfl⟩
  rw [hn] at hsane hv1 ⊢
  unfold sgV at hsane ⊢
  dsimp only at hsane ⊢
  have hb := Lib.hid (blk_new w #[.slice p n cap, .bool on, .int .i64 k, .bool pi, .bool o] 30)
  have hbel := Lib.hid (below_new w (.cells #[.slice p n cap, .bool on, .int .i64 k, .bool pi, .bool o] 30))
  replace hsane := Lib.hid hsane
  clear hS hv hn
  go_enter Tryz.func46, Tryz.ntmps46
  go_wp2_with fail
  refine (hsane.out _ hv1.out).mono ?_
  rintro e w1 ⟨rfl, hb1⟩
  have x1 := blk_below hb.out hb1
  have c0 := blk_cell x1 0 (.slice p n cap) rfl
  replace hb1 := Lib.hid (below_on hbel.out hb1)
  replace x1 := Lib.hid x1
  rcases S with _ | _
  · go_wp2_with fail
    go_ret
    exact ⟨rfl, hb1.out⟩
  · go_wp2_with fail
    go_ret
    exact ⟨rfl, hb1.out⟩
end Go.Proofs.YtiidjkhkcckmkaaGreatDoor

/- Layer 12: what the document's Feed comes to; a block of five cells. -/
namespace Go.Proofs.YtiidjkhkcckmkaaGreatDoor
set_option linter.unusedSimpArgs false
set_option linter.unusedVariables false
open Go.RowKit Go.Lib
abbrev set5 (w : World) (k : Nat) (x0 x1 x2 x3 x4 : Value) : World := ((((w.setCell ⟨k, 0, none⟩ x0).setCell ⟨k, 1, none⟩ x1).setCell ⟨k, 2, none⟩ x2).setCell ⟨k, 3, none⟩ x3).setCell ⟨k, 4, none⟩ x4
theorem blk_set5 {w : World} {k : Nat} {a b c d e : Value} {T : TypeId} (h : Blk w k #[a, b, c, d, e] T) (x0 x1 x2 x3 x4 : Value) : Blk (set5 w k x0 x1 x2 x3 x4) k #[x0, x1, x2, x3, x4] T :=
  blk_setAt (blk_setAt (blk_setAt (blk_setAt (blk_setAt h 0 x0) 1 x1) 2 x2) 3 x3) 4 x4
theorem blk_other5 {w : World} {k j : Nat} {cs : Array Value} {T : TypeId} (h : Blk w k cs T) (x0 x1 x2 x3 x4 : Value) (hne : j ≠ k) : Blk (set5 w j x0 x1 x2 x3 x4) k cs T :=
  blk_otherAt (blk_other4 h x0 x1 x2 x3 hne) 4 x4 hne
theorem below_set5 {n k : Nat} {w w1 : World} (h : Below n w w1) (hk : n ≤ k) (x0 x1 x2 x3 x4 : Value) : Below n w (set5 w1 k x0 x1 x2 x3 x4) :=
  (below_set4 h hk x0 x1 x2 x3).setCell (p := ⟨k, 4, none⟩) hk x4
end Go.Proofs.YtiidjkhkcckmkaaGreatDoor

/- Layer 12: the document's Feed. -/
namespace Go.Proofs.YtiidjkhkcckmkaaGreatDoor
set_option linter.unusedSimpArgs false
set_option linter.unusedVariables false
open Go.RowKit Go.Lib
theorem heldS5 {w w1 : World} {a0 a1 a2 a3 a4 : Addr} {u0 u1 u2 u3 u4 : Value} (hb : Below w.heap.size w w1) (h : w.cell? a0 = some u0 ∧ w.cell? a1 = some u1 ∧ w.cell? a2 = some u2 ∧ w.cell? a3 = some u3 ∧ w.cell? a4 = some u4) :
    w1.cell? a0 = some u0 ∧ w1.cell? a1 = some u1 ∧ w1.cell? a2 = some u2 ∧ w1.cell? a3 = some u3 ∧ w1.cell? a4 = some u4 := by
  obtain ⟨h0, h1, h2, h3, h4⟩ := h
  exact ⟨by rw [hb.cell (World.block_lt_of_cell? _ _ h0)]; exact h0, by rw [hb.cell (World.block_lt_of_cell? _ _ h1)]; exact h1, by rw [hb.cell (World.block_lt_of_cell? _ _ h2)]; exact h2, by rw [hb.cell (World.block_lt_of_cell? _ _ h3)]; exact h3, by rw [hb.cell (World.block_lt_of_cell? _ _ h4)]; exact h4⟩
theorem below_new_drew (w : World) (o : Obj) : Below w.drew.heap.size w.drew (w.alloc o).drew := below_new w.drew o
theorem cell_set5 {w : World} {k : Nat} {x0 x1 x2 x3 x4 : Value} {a : Addr} (h : k ≠ a.block) : (set5 w k x0 x1 x2 x3 x4).cell? a = w.cell? a := by
  unfold set5
  rw [World.cell?_setCell_other, World.cell?_setCell_other, World.cell?_setCell_other, World.cell?_setCell_other, World.cell?_setCell_other]
  all_goals
    intro e
    exact h (congrArg Addr.block e)
theorem cell_drew5 (w : World) (a : Addr) : w.drew.cell? a = w.cell? a := rfl
theorem held_set5 {w : World} {k b1 b2 : Nat} {x0 x1 x2 x3 x4 u0 u1 u2 u3 u4 : Value} (n1 : k ≠ b1) (n2 : k ≠ b2)
    (h : w.drew.cell? ⟨b1, 0, none⟩ = some u0 ∧ w.drew.cell? ⟨b1, 1, none⟩ = some u1 ∧ w.drew.cell? ⟨b1, 2, none⟩ = some u2 ∧ w.drew.cell? ⟨b1, 3, none⟩ = some u3 ∧ w.drew.cell? ⟨b2, 0, none⟩ = some u4) :
    (set5 w k x0 x1 x2 x3 x4).drew.cell? ⟨b1, 0, none⟩ = some u0 ∧ (set5 w k x0 x1 x2 x3 x4).drew.cell? ⟨b1, 1, none⟩ = some u1 ∧ (set5 w k x0 x1 x2 x3 x4).drew.cell? ⟨b1, 2, none⟩ = some u2 ∧ (set5 w k x0 x1 x2 x3 x4).drew.cell? ⟨b1, 3, none⟩ = some u3 ∧ (set5 w k x0 x1 x2 x3 x4).drew.cell? ⟨b2, 0, none⟩ = some u4 := by
  have e : ∀ a : Addr, k ≠ a.block → (set5 w k x0 x1 x2 x3 x4).drew.cell? a = w.drew.cell? a := fun a ha => by
    rw [cell_drew5, cell_set5 ha, cell_drew5]
  rw [e _ n1, e _ n1, e _ n1, e _ n1, e _ n2]
  exact h
theorem ownI_set5 {B k : Nat} {v : Value} {l : List Int} {w : World} (h : OwnI B v l w) (hk : k < B) (x0 x1 x2 x3 x4 : Value) : OwnI B v l (set5 w k x0 x1 x2 x3 x4) := by
  unfold set5
  exact ownI_set (ownI_set (ownI_set (ownI_set (ownI_set h _ _ (ownI_ne h hk)) _ _ (ownI_ne h hk)) _ _ (ownI_ne h hk)) _ _ (ownI_ne h hk)) _ _ (ownI_ne h hk)
theorem blk_lowS {B : Nat} {w w1 : World} {k : Nat} {cs : Array Value} {T : TypeId} (h : Blk w k cs T) (hk : k < B) (hb : Below B w w1) : Blk w1 k cs T := by
  unfold Blk at *
  rw [hb.block k hk]
  exact h
def Fed12v (v : Value) (l : List Int) (q : (List Int × Clu.CS) × List Int) (w : World) (e : Ending) (w' : World) : Prop :=
  ∃ va vb, e = .returned (.tuple #[sgV va q.1.2, vb]) ∧ OwnI w.heap.size va q.1.1 w' ∧ ((vb = v ∧ q.2 = l) ∨ (vb = .slice none 0 0 ∧ q.2 = [])) ∧ Below w.heap.size w w'
theorem step_cut {c : List Int} {s : Clu.CS} {r : Int} (h0 : 0 < c.length) (h : Clu.endsI s r = true ∨ c.length = 32) : Sgm.stepI c s r = (([r], Clu.nextI s r), c) := by
  unfold Sgm.stepI
  rw [if_pos ⟨fun e => by subst e; simp at h0, h⟩]
theorem step_go {c : List Int} {s : Clu.CS} {r : Int} (h : c.length = 0 ∨ (Clu.endsI s r = false ∧ ¬ c.length = 32)) : Sgm.stepI c s r = ((c ++ [r], Clu.nextI s r), []) := by
  unfold Sgm.stepI
  rw [if_neg]
  rintro ⟨h1, h2⟩
  rcases h with h | ⟨h3, h4⟩
  · exact h1 (List.eq_nil_of_length_eq_zero h)
  · rcases h2 with h2 | h2
    · rw [h3] at h2; cases h2
    · exact h4 h2
set_option maxHeartbeats 1600000 in
set_option maxRecDepth 100000 in
theorem rfeed12_own (v : Value) (l : List Int) (s : Clu.CS) (r : Int) (w : World) (hl : l.length ≤ 10000) (hv : RI w v l) : Calls Tryz.prog 37 #[sgV v s, .int .i64 r] w (Fed12v v l (Sgm.feedI l s r) w) := by
  obtain ⟨i0, hi, hz0, hz1, hz2⟩ := info_parts info_i
  obtain ⟨p, cap, rfl⟩ := ri_form hv
  have hnext0 := fun W => rnext11_any Clu.zero r W
  have hnext1 := fun W => rnext11_any s r W
  have hends := fun W => rends11_any s r W
  have hcut := @step_cut l s r
  have hgo := @step_go l s r
  have hgo0 := @step_go [] Clu.zero r (.inl rfl)
  have hfed : Sgm.feedI l s r = if Sgm.saneB l s = true then Sgm.stepI l s r else Sgm.stepI [] Clu.zero r := rfl
  rw [hfed]
  clear hfed
  obtain ⟨X, hX⟩ : ∃ X, Clu.nextI s r = X := ⟨_, rfl⟩
  obtain ⟨X0, hX0⟩ : ∃ X, Clu.nextI Clu.zero r = X := ⟨_, rfl⟩
  obtain ⟨E, hE⟩ : ∃ E, Clu.endsI s r = E := ⟨_, rfl⟩
  rw [hX] at hnext1 hcut hgo
  rw [hX0] at hnext0 hgo0
  rw [hE] at hends hcut hgo
  have hsaneW := fun W (h : RI W (.slice p l.length cap) l) => rsane12_any (.slice p l.length cap) l s W (by omega) h
  obtain ⟨S, hS⟩ : ∃ S, Sgm.saneB l s = S := ⟨_, rfl⟩
  rw [hS] at hsaneW ⊢
  clear hX hX0 hE hS
  obtain ⟨on, kd, pi, od⟩ := s
  unfold sgV at hsaneW ⊢
  unfold csV at hnext1 hends hnext0
  dsimp only [Clu.zero] at hnext0
  dsimp only at hsaneW hnext1 hends ⊢
  have hbox0 := blk_new w #[.slice p l.length cap, .bool on, .int .i64 kd, .bool pi, .bool od] 30
  have hbox := blk_alloc hbox0 (.cells #[.slice none 0 0, .bool false, .int .i64 0, .bool false, .bool false] 30)
  have hres := blk_new (w.alloc (.cells #[.slice p l.length cap, .bool on, .int .i64 kd, .bool pi, .bool od] 30)) #[.slice none 0 0, .bool false, .int .i64 0, .bool false, .bool false] 30
  rw [show (w.alloc (.cells #[.slice p l.length cap, .bool on, .int .i64 kd, .bool pi, .bool od] 30)).heap.size = w.heap.size + 1 by simp] at hres
  have hb0 : Below w.heap.size w ((w.alloc (.cells #[.slice p l.length cap, .bool on, .int .i64 kd, .bool pi, .bool od] 30)).alloc (.cells #[.slice none 0 0, .bool false, .int .i64 0, .bool false, .bool false] 30)) := (below_new w _).alloc (by simp) _
  obtain ⟨W, hW⟩ : ∃ W, (w.alloc (.cells #[.slice p l.length cap, .bool on, .int .i64 kd, .bool pi, .bool od] 30)).alloc (.cells #[.slice none 0 0, .bool false, .int .i64 0, .bool false, .bool false] 30) = W := ⟨_, rfl⟩
  have hvW := ri_below hv hb0
  rw [hW] at hbox hres hb0 hvW
  have hsane := Lib.hid (hsaneW W hvW)
  replace hbox := Lib.hid hbox
  replace hres := Lib.hid hres
  replace hb0 := Lib.hid hb0
  replace hvW := Lib.hid hvW
  replace hW := Lib.hid hW
  replace hv := Lib.hid hv
  replace hends := Lib.hid hends
  clear hbox0 hsaneW
  cases S with
  | false =>
    rw [if_neg (by simp), hgo0]
    obtain ⟨xa, xb, xc, xd⟩ := X0
    have hnext := Lib.hid hnext0
    clear hgo0 hnext0 hnext1 hgo hcut
    go_enter Tryz.func37, Tryz.ntmps37
    go_upto_region 1 with (fail)
    rw [hW.out]
    have c0 := blk_cell hbox.out 0 _ rfl
    have c1 := blk_cell hbox.out 1 _ rfl
    have c2 := blk_cell hbox.out 2 _ rfl
    have c3 := blk_cell hbox.out 3 _ rfl
    have c4 := blk_cell hbox.out 4 _ rfl
    go_wp2_with fail
    refine hsane.out.mono ?_
    rintro e w2 ⟨rfl, q2⟩
    have hr2 := Lib.hid (blk_below hres.out q2)
    have hy2 := blk_below hbox.out q2
    have g0 := blk_cell hy2 0 _ rfl
    have g1 := blk_cell hy2 1 _ rfl
    have g2 := blk_cell hy2 2 _ rfl
    have g3 := blk_cell hy2 3 _ rfl
    have g4 := blk_cell hy2 4 _ rfl
    have f0 := blk_thaw hy2 0
    have f1 := blk_thaw hy2 1
    have f2 := blk_thaw hy2 2
    have f3 := blk_thaw hy2 3
    have f4 := blk_thaw hy2 4
    have hx2 := Lib.hid (blk_set5 hy2 (.slice none 0 0) (.bool false) (.int .i64 0) (.bool false) (.bool false))
    replace hr2 := Lib.hid (blk_other5 (j := w.heap.size) hr2.out (.slice none 0 0) (.bool false) (.int .i64 0) (.bool false) (.bool false) (by omega))
    replace q2 := Lib.hid (below_set5 (hb0.out.trans (q2.mono hb0.out.size)) (Nat.le_refl _) (.slice none 0 0) (.bool false) (.int .i64 0) (.bool false) (.bool false))
    replace hy2 := Lib.hid hy2
    clear c0 c1 c2 c3 c4
    go_upto_region 3 with (fail)
    obtain ⟨wq, hW2⟩ : ∃ wq, set5 w2 w.heap.size (.slice none 0 0) (.bool false) (.int .i64 0) (.bool false) (.bool false) = wq := ⟨_, rfl⟩
    rw [hW2] at hx2 hr2 q2
    unfold set5 at hW2
    rw [hW2]
    have hv2 := Lib.hid (ri_nil wq)
    clear g0 g1 g2 g3 g4 f0 f1 f2 f3 f4 hy2 hW2
    have c1 := blk_cell hx2.out 1 _ rfl
    have c2 := blk_cell hx2.out 2 _ rfl
    have c3 := blk_cell hx2.out 3 _ rfl
    have c4 := blk_cell hx2.out 4 _ rfl
    go_wp2_with fail
    refine (hnext.out _).mono ?_
    rintro e w3 ⟨rfl, q3⟩
    have hk1 : w.heap.size + 1 < w3.heap.size := blk_lt (blk_below hr2.out q3)
    have hx4 := Lib.hid (blk_alloc (blk_below hx2.out q3) (.cells #[.bool xa, .int .i64 xb, .bool xc, .bool xd] 28))
    have hr4 := Lib.hid (blk_alloc (blk_below hr2.out q3) (.cells #[.bool xa, .int .i64 xb, .bool xc, .bool xd] 28))
    have hk4 := Lib.hid (blk_new w3 #[.bool xa, .int .i64 xb, .bool xc, .bool xd] 28)
    have hv4 := Lib.hid (ri_below (ri_below hv2.out q3) (below_new w3 (.cells #[.bool xa, .int .i64 xb, .bool xc, .bool xd] 28)))
    have hb4 := Lib.hid ((below_on q2.out q3).alloc (below_on q2.out q3).size (.cells #[.bool xa, .int .i64 xb, .bool xc, .bool xd] 28))
    clear c1 c2 c3 c4 q3 q2 hx2 hr2 hv2
    go_upto_region 4 with (fail)
    generalize hW4 : w3.alloc (.cells #[.bool xa, .int .i64 xb, .bool xc, .bool xd] 28) = W4 at *
    replace hW4 := Lib.hid hW4
    have c0 := blk_cell hx4.out 0 _ rfl
    have c1 := blk_cell hx4.out 1 _ rfl
    have c2 := blk_cell hx4.out 2 _ rfl
    have c3 := blk_cell hx4.out 3 _ rfl
    have c4 := blk_cell hx4.out 4 _ rfl
    have e6 := Lib.hid (ownI_lit W4.heap.size W4 [] #[] W4.heap.size 0 rfl (Nat.le_refl _) rfl rfl (by unfold maxLen; omega))
    have s6 := Lib.hid (ri_src (ri_below hv4.out (below_new W4 (.cells #[] 3))))
    have g6 := Lib.hid (below_new W4 (.cells #[] 3))
    have y0 := blk_cell (blk_alloc hx4.out (.cells #[] 3)) 0 _ rfl
    go_upto_region 6 with (fail)
    go_upto_region 7 with (at_builtin; refine wpList_append_src rfl _ _ 24 rfl W4.heap.size 3 i0 (.int .i64 0) 8 Tryz.underlying24 hi hz0 hz1 hz2 rfl _ _ _ rfl e6.out _ _ rfl s6.out (oneCellI _) (by simp only [List.length_map, List.length_append, List.length_take, List.length_drop, List.length_cons, List.length_nil, List.length_singleton]; unfold maxLen; omega) (by simp only [List.length_map, List.length_append, List.length_take, List.length_drop, List.length_cons, List.length_nil, List.length_singleton]; omega) g6.out.size ?_; intro v7 w7 ho7 hg7; have o7 := Lib.hid (ownI_of_row (l := [] ++ []) ho7 (by (try simp); try omega) (by (try simp); try omega)); have b7 := Lib.hid (below_row g6.out hg7 g6.out.size e6.out (Nat.le_refl _)); clear ho7 hg7)
    have hkk : w3.heap.size < W4.heap.size := blk_lt hk4.out
    have hrr : w.heap.size + 1 < W4.heap.size := by omega
    clear y0 e6 s6 g6
    have bb7 := Lib.hid (below_on hb4.out b7.out)
    have e8 := Lib.hid (ownI_alloc o7.out (.cells #[.int .i64 r] 3))
    have s8 := Lib.hid (ri_src (ri_of_own (ownI_lit w.heap.size w7 [r] #[.int .i64 r] w7.heap.size 1 rfl bb7.out.size rfl rfl (by unfold maxLen; omega))))
    have g8 := Lib.hid (b7.out.alloc b7.out.size (.cells #[.int .i64 r] 3))
    go_upto_region 8 with (at_builtin; refine wpList_append_src rfl _ _ 24 rfl W4.heap.size 3 i0 (.int .i64 0) 8 Tryz.underlying24 hi hz0 hz1 hz2 rfl _ _ _ rfl e8.out _ _ rfl s8.out (oneCellI _) (by simp only [List.length_map, List.length_append, List.length_take, List.length_drop, List.length_cons, List.length_nil, List.length_singleton]; unfold maxLen; omega) (by simp only [List.length_map, List.length_append, List.length_take, List.length_drop, List.length_cons, List.length_nil, List.length_singleton]; omega) g8.out.size ?_; intro v9 w9 ho9 hg9; have o9 := Lib.hid (ownI_of_row (l := ([] ++ []) ++ [r]) ho9 (by (try simp); try omega) (by (try simp); try omega)); have b9 := Lib.hid (below_row g8.out hg9 g8.out.size e8.out (Nat.le_refl _)); clear ho9 hg9)
    have hr9 := blk_lowS hr4.out hrr b9.out
    have hk9 := blk_lowS hk4.out hkk b9.out
    have hb9 := below_on hb4.out b9.out
    have j0 := blk_cell hr9 0 _ rfl
    have j1 := blk_cell hr9 1 _ rfl
    have j2 := blk_cell hr9 2 _ rfl
    have j3 := blk_cell hr9 3 _ rfl
    have j4 := blk_cell hr9 4 _ rfl
    have f0 := blk_thaw hr9 0
    have f1 := blk_thaw hr9 1
    have f2 := blk_thaw hr9 2
    have f3 := blk_thaw hr9 3
    have f4 := blk_thaw hr9 4
    have k0 := blk_cell hk9 0 _ rfl
    have k1 := blk_cell hk9 1 _ rfl
    have k2 := blk_cell hk9 2 _ rfl
    have k3 := blk_cell hk9 3 _ rfl
    obtain ⟨M, hM⟩ : ∃ M, ([] ++ []) ++ [r] = M := ⟨_, rfl⟩
    rw [hM] at o9
    obtain ⟨p9, c9, rfl⟩ := ri_form (ri_of_own o9.out)
    have o10 := Lib.hid (ownI_mono (ownI_set5 o9.out hrr (.slice p9 M.length c9) (.bool xa) (.int .i64 xb) (.bool xc) (.bool xd)) (show w.heap.size ≤ W4.heap.size by omega))
    have b10 := Lib.hid (below_set5 hb9 (Nat.le_succ _) (.slice p9 M.length c9) (.bool xa) (.int .i64 xb) (.bool xc) (.bool xd))
    have hfin := Lib.hid (blk_set5 hr9 (.slice p9 M.length c9) (.bool xa) (.int .i64 xb) (.bool xc) (.bool xd))
    replace hM := Lib.hid hM
    replace hr9 := Lib.hid hr9
    replace hk9 := Lib.hid hk9
    replace hb9 := Lib.hid hb9
    clear e8 s8 g8 hkk hrr bb7
    go_wp2_with fail
    have d0 := blk_cell hfin.out 0 _ rfl
    have d1 := blk_cell hfin.out 1 _ rfl
    have d2 := blk_cell hfin.out 2 _ rfl
    have d3 := blk_cell hfin.out 3 _ rfl
    have d4 := blk_cell hfin.out 4 _ rfl
    refine bodyPost_ret (v := .tuple #[.agg #[.slice p9 M.length c9, .bool xa, .int .i64 xb, .bool xc, .bool xd], .slice none 0 0]) ?_ rfl ⟨_, _, rfl, ownI_cast o10.out (by rw [← hM.out]; rfl), .inr ⟨rfl, rfl⟩, b10.out⟩
    simp [results, Tryz.results37, go_sem, d0, d1, d2, d3, d4]
  | true =>
    rw [if_pos rfl]
    obtain ⟨xa, xb, xc, xd⟩ := X
    have hnext := Lib.hid hnext1
    clear hgo0 hnext0 hnext1
    rcases Nat.eq_zero_or_pos l.length with h0 | h0
    · rw [hgo (.inl h0)]
      have h1 : ¬ 0 < l.length := by omega
      have h2 : decide (0 < l.length) = false := decide_eq_false h1
      clear hgo hcut h0
      go_enter Tryz.func37, Tryz.ntmps37
      go_upto_region 1 with (fail)
      rw [hW.out]
      have c0 := blk_cell hbox.out 0 _ rfl
      have c1 := blk_cell hbox.out 1 _ rfl
      have c2 := blk_cell hbox.out 2 _ rfl
      have c3 := blk_cell hbox.out 3 _ rfl
      have c4 := blk_cell hbox.out 4 _ rfl
      go_wp2_with fail
      refine hsane.out.mono ?_
      rintro e w2 ⟨rfl, q2⟩
      have hr2 := Lib.hid (blk_below hres.out q2)
      have hx2 := Lib.hid (blk_below hbox.out q2)
      have hv2 := Lib.hid (ri_below hvW.out q2)
      replace q2 := Lib.hid (hb0.out.trans (q2.mono hb0.out.size))
      clear c0 c1 c2 c3 c4
      go_upto_region 3 with (fail)
      obtain ⟨W2, hW2⟩ : ∃ W2, w2 = W2 := ⟨_, rfl⟩
      subst hW2
      have c1 := blk_cell hx2.out 1 _ rfl
      have c2 := blk_cell hx2.out 2 _ rfl
      have c3 := blk_cell hx2.out 3 _ rfl
      have c4 := blk_cell hx2.out 4 _ rfl
      go_wp2_with fail
      refine (hnext.out _).mono ?_
      rintro e w3 ⟨rfl, q3⟩
      have hk1 : w.heap.size + 1 < w3.heap.size := blk_lt (blk_below hr2.out q3)
      have hx4 := Lib.hid (blk_alloc (blk_below hx2.out q3) (.cells #[.bool xa, .int .i64 xb, .bool xc, .bool xd] 28))
      have hr4 := Lib.hid (blk_alloc (blk_below hr2.out q3) (.cells #[.bool xa, .int .i64 xb, .bool xc, .bool xd] 28))
      have hk4 := Lib.hid (blk_new w3 #[.bool xa, .int .i64 xb, .bool xc, .bool xd] 28)
      have hv4 := Lib.hid (ri_below (ri_below hv2.out q3) (below_new w3 (.cells #[.bool xa, .int .i64 xb, .bool xc, .bool xd] 28)))
      have hb4 := Lib.hid ((below_on q2.out q3).alloc (below_on q2.out q3).size (.cells #[.bool xa, .int .i64 xb, .bool xc, .bool xd] 28))
      clear c1 c2 c3 c4 q3 q2 hx2 hr2 hv2
      go_upto_region 4 with (fail)
      generalize hW4 : w3.alloc (.cells #[.bool xa, .int .i64 xb, .bool xc, .bool xd] 28) = W4 at *
      replace hW4 := Lib.hid hW4
      have c0 := blk_cell hx4.out 0 _ rfl
      have c1 := blk_cell hx4.out 1 _ rfl
      have c2 := blk_cell hx4.out 2 _ rfl
      have c3 := blk_cell hx4.out 3 _ rfl
      have c4 := blk_cell hx4.out 4 _ rfl
      have e6 := Lib.hid (ownI_lit W4.heap.size W4 [] #[] W4.heap.size 0 rfl (Nat.le_refl _) rfl rfl (by unfold maxLen; omega))
      have s6 := Lib.hid (ri_src (ri_below hv4.out (below_new W4 (.cells #[] 3))))
      have g6 := Lib.hid (below_new W4 (.cells #[] 3))
      have y0 := blk_cell (blk_alloc hx4.out (.cells #[] 3)) 0 _ rfl
      go_upto_region 6 with (fail)
      go_upto_region 7 with (at_builtin; refine wpList_append_src rfl _ _ 24 rfl W4.heap.size 3 i0 (.int .i64 0) 8 Tryz.underlying24 hi hz0 hz1 hz2 rfl _ _ _ rfl e6.out _ _ rfl s6.out (oneCellI _) (by simp only [List.length_map, List.length_append, List.length_take, List.length_drop, List.length_cons, List.length_nil, List.length_singleton]; unfold maxLen; omega) (by simp only [List.length_map, List.length_append, List.length_take, List.length_drop, List.length_cons, List.length_nil, List.length_singleton]; omega) g6.out.size ?_; intro v7 w7 ho7 hg7; have o7 := Lib.hid (ownI_of_row (l := [] ++ l) ho7 (by (try simp); try omega) (by (try simp); try omega)); have b7 := Lib.hid (below_row g6.out hg7 g6.out.size e6.out (Nat.le_refl _)); clear ho7 hg7)
      have hkk : w3.heap.size < W4.heap.size := blk_lt hk4.out
      have hrr : w.heap.size + 1 < W4.heap.size := by omega
      clear y0 e6 s6 g6
      have bb7 := Lib.hid (below_on hb4.out b7.out)
      have e8 := Lib.hid (ownI_alloc o7.out (.cells #[.int .i64 r] 3))
      have s8 := Lib.hid (ri_src (ri_of_own (ownI_lit w.heap.size w7 [r] #[.int .i64 r] w7.heap.size 1 rfl bb7.out.size rfl rfl (by unfold maxLen; omega))))
      have g8 := Lib.hid (b7.out.alloc b7.out.size (.cells #[.int .i64 r] 3))
      go_upto_region 8 with (at_builtin; refine wpList_append_src rfl _ _ 24 rfl W4.heap.size 3 i0 (.int .i64 0) 8 Tryz.underlying24 hi hz0 hz1 hz2 rfl _ _ _ rfl e8.out _ _ rfl s8.out (oneCellI _) (by simp only [List.length_map, List.length_append, List.length_take, List.length_drop, List.length_cons, List.length_nil, List.length_singleton]; unfold maxLen; omega) (by simp only [List.length_map, List.length_append, List.length_take, List.length_drop, List.length_cons, List.length_nil, List.length_singleton]; omega) g8.out.size ?_; intro v9 w9 ho9 hg9; have o9 := Lib.hid (ownI_of_row (l := ([] ++ l) ++ [r]) ho9 (by (try simp); try omega) (by (try simp); try omega)); have b9 := Lib.hid (below_row g8.out hg9 g8.out.size e8.out (Nat.le_refl _)); clear ho9 hg9)
      have hr9 := blk_lowS hr4.out hrr b9.out
      have hk9 := blk_lowS hk4.out hkk b9.out
      have hb9 := below_on hb4.out b9.out
      have j0 := blk_cell hr9 0 _ rfl
      have j1 := blk_cell hr9 1 _ rfl
      have j2 := blk_cell hr9 2 _ rfl
      have j3 := blk_cell hr9 3 _ rfl
      have j4 := blk_cell hr9 4 _ rfl
      have f0 := blk_thaw hr9 0
      have f1 := blk_thaw hr9 1
      have f2 := blk_thaw hr9 2
      have f3 := blk_thaw hr9 3
      have f4 := blk_thaw hr9 4
      have k0 := blk_cell hk9 0 _ rfl
      have k1 := blk_cell hk9 1 _ rfl
      have k2 := blk_cell hk9 2 _ rfl
      have k3 := blk_cell hk9 3 _ rfl
      obtain ⟨M, hM⟩ : ∃ M, ([] ++ l) ++ [r] = M := ⟨_, rfl⟩
      rw [hM] at o9
      obtain ⟨p9, c9, rfl⟩ := ri_form (ri_of_own o9.out)
      have o10 := Lib.hid (ownI_mono (ownI_set5 o9.out hrr (.slice p9 M.length c9) (.bool xa) (.int .i64 xb) (.bool xc) (.bool xd)) (show w.heap.size ≤ W4.heap.size by omega))
      have b10 := Lib.hid (below_set5 hb9 (Nat.le_succ _) (.slice p9 M.length c9) (.bool xa) (.int .i64 xb) (.bool xc) (.bool xd))
      have hfin := Lib.hid (blk_set5 hr9 (.slice p9 M.length c9) (.bool xa) (.int .i64 xb) (.bool xc) (.bool xd))
      replace hM := Lib.hid hM
      replace hr9 := Lib.hid hr9
      replace hk9 := Lib.hid hk9
      replace hb9 := Lib.hid hb9
      clear e8 s8 g8 hkk hrr bb7
      go_wp2_with fail
      have d0 := blk_cell hfin.out 0 _ rfl
      have d1 := blk_cell hfin.out 1 _ rfl
      have d2 := blk_cell hfin.out 2 _ rfl
      have d3 := blk_cell hfin.out 3 _ rfl
      have d4 := blk_cell hfin.out 4 _ rfl
      refine bodyPost_ret (v := .tuple #[.agg #[.slice p9 M.length c9, .bool xa, .int .i64 xb, .bool xc, .bool xd], .slice none 0 0]) ?_ rfl ⟨_, _, rfl, ownI_cast o10.out (by rw [← hM.out]; rfl), .inr ⟨rfl, rfl⟩, b10.out⟩
      simp [results, Tryz.results37, go_sem, d0, d1, d2, d3, d4]
    · have h2 : decide (0 < l.length) = true := decide_eq_true h0
      cases E with
      | true =>
        rw [hcut h0 (.inl rfl)]
        clear hgo hcut
        go_enter Tryz.func37, Tryz.ntmps37
        go_upto_region 1 with (fail)
        rw [hW.out]
        have c0 := blk_cell hbox.out 0 _ rfl
        have c1 := blk_cell hbox.out 1 _ rfl
        have c2 := blk_cell hbox.out 2 _ rfl
        have c3 := blk_cell hbox.out 3 _ rfl
        have c4 := blk_cell hbox.out 4 _ rfl
        go_wp2_with fail
        refine hsane.out.mono ?_
        rintro e w2 ⟨rfl, q2⟩
        have hr2 := Lib.hid (blk_below hres.out q2)
        have hx2 := Lib.hid (blk_below hbox.out q2)
        have hv2 := Lib.hid (ri_below hvW.out q2)
        replace q2 := Lib.hid (hb0.out.trans (q2.mono hb0.out.size))
        clear c0 c1 c2 c3 c4
        go_upto_region 3 with (fail)
        obtain ⟨W2, hW2⟩ : ∃ W2, w2 = W2 := ⟨_, rfl⟩
        subst hW2
        have c1 := blk_cell hx2.out 1 _ rfl
        have c2 := blk_cell hx2.out 2 _ rfl
        have c3 := blk_cell hx2.out 3 _ rfl
        have c4 := blk_cell hx2.out 4 _ rfl
        go_wp2_with fail
        refine (hnext.out _).mono ?_
        rintro e w3 ⟨rfl, q3⟩
        have hk1 : w.heap.size + 1 < w3.heap.size := blk_lt (blk_below hr2.out q3)
        have hx4 := Lib.hid (blk_alloc (blk_below hx2.out q3) (.cells #[.bool xa, .int .i64 xb, .bool xc, .bool xd] 28))
        have hr4 := Lib.hid (blk_alloc (blk_below hr2.out q3) (.cells #[.bool xa, .int .i64 xb, .bool xc, .bool xd] 28))
        have hk4 := Lib.hid (blk_new w3 #[.bool xa, .int .i64 xb, .bool xc, .bool xd] 28)
        have hv4 := Lib.hid (ri_below (ri_below hv2.out q3) (below_new w3 (.cells #[.bool xa, .int .i64 xb, .bool xc, .bool xd] 28)))
        have hb4 := Lib.hid ((below_on q2.out q3).alloc (below_on q2.out q3).size (.cells #[.bool xa, .int .i64 xb, .bool xc, .bool xd] 28))
        clear c1 c2 c3 c4 q3 q2 hx2 hr2 hv2
        go_upto_region 4 with (fail)
        generalize hW4 : w3.alloc (.cells #[.bool xa, .int .i64 xb, .bool xc, .bool xd] 28) = W4 at *
        replace hW4 := Lib.hid hW4
        have c0 := blk_cell hx4.out 0 _ rfl
        have c1 := blk_cell hx4.out 1 _ rfl
        have c2 := blk_cell hx4.out 2 _ rfl
        have c3 := blk_cell hx4.out 3 _ rfl
        have c4 := blk_cell hx4.out 4 _ rfl
        go_wp2_with fail
        refine (hends.out _).mono ?_
        rintro e w5 ⟨rfl, q5⟩
        have hx5 := Lib.hid (blk_below hx4.out q5)
        have hr5 := Lib.hid (blk_below hr4.out q5)
        have hk5 := Lib.hid (blk_below hk4.out q5)
        have hv5 := Lib.hid (ri_below hv4.out q5)
        have hb5 := Lib.hid (below_on hb4.out q5)
        clear c0 c1 c2 c3 c4 q5 hx4 hr4 hk4 hv4 hb4
        have c0 := blk_cell hx5.out 0 _ rfl
        go_upto_region 5 with (fail)
        have k0 := blk_cell hk5.out 0 _ rfl
        have k1 := blk_cell hk5.out 1 _ rfl
        have k2 := blk_cell hk5.out 2 _ rfl
        have k3 := blk_cell hk5.out 3 _ rfl
        have hr6 := Lib.hid (blk_alloc hr5.out (.cells #[.int .i64 r] 3))
        have hlow : w.heap.size + 1 < w5.heap.size := blk_lt hr5.out
        have o6 := Lib.hid (ownI_lit (w.heap.size + 2) w5 [r] #[.int .i64 r] w5.heap.size 1 rfl (by omega) rfl rfl (by unfold maxLen; omega))
        have b6 := Lib.hid (hb5.out.alloc hb5.out.size (.cells #[.int .i64 r] 3))
        have o7 := Lib.hid (ownI_mono (ownI_set5 o6.out (show w.heap.size + 1 < w.heap.size + 2 by omega) (.slice (some ⟨w5.heap.size, 0, none⟩) 1 1) (.bool xa) (.int .i64 xb) (.bool xc) (.bool xd)) (show w.heap.size ≤ w.heap.size + 2 by omega))
        have b7 := Lib.hid (below_set5 b6.out (Nat.le_succ _) (.slice (some ⟨w5.heap.size, 0, none⟩) 1 1) (.bool xa) (.int .i64 xb) (.bool xc) (.bool xd))
        have hfin := Lib.hid (blk_set5 hr6.out (.slice (some ⟨w5.heap.size, 0, none⟩) 1 1) (.bool xa) (.int .i64 xb) (.bool xc) (.bool xd))
        have n1 := Lib.hid (show w.heap.size + 1 ≠ w3.heap.size by omega)
        have n2 := Lib.hid (show w.heap.size + 1 ≠ w.heap.size by omega)
        refine wp_region_held_drew (S := fun w' => w'.cell? ⟨w3.heap.size, 0, none⟩ = some (.bool xa) ∧ w'.cell? ⟨w3.heap.size, 1, none⟩ = some (.int .i64 xb) ∧ w'.cell? ⟨w3.heap.size, 2, none⟩ = some (.bool xc) ∧ w'.cell? ⟨w3.heap.size, 3, none⟩ = some (.bool xd) ∧ w'.cell? ⟨w.heap.size, 0, none⟩ = some (.slice p l.length cap)) (by kernel_rfl) (⟨k0, k1, k2, k3, c0⟩) (fun hS => ?_)
        refine' wpAnyH_take (i := 0) (oi := ⟨_, _, _, _, _, _⟩) (v := _) rfl (by kernel_rfl) (by kernel_rfl) (by kernel_rfl) (fun _ _ _ h => h) (Or.inl ⟨by rfl, ?hya0⟩) hS ?resta0
        case hya0 => (intro wz hSw; (try dsimp only at hSw); go_simp; try with_reducible rfl)
        try simp only [Act.put, List.setIfInBounds_toArray, List.set_cons_zero, List.set_cons_succ]
        refine' wpAnyH_take (i := 2) (oi := ⟨_, _, _, _, _, _⟩) (v := _) rfl (by kernel_rfl) (by kernel_rfl) (by kernel_rfl) (fun _ _ _ h => h) (Or.inl ⟨by rfl, ?hya2⟩) hS ?resta2
        case hya2 => (intro wz hSw; (try dsimp only at hSw); go_simp; try with_reducible rfl)
        try simp only [Act.put, List.setIfInBounds_toArray, List.set_cons_zero, List.set_cons_succ]
        refine' wpAnyH_take (i := 4) (oi := ⟨_, _, _, _, _, _⟩) (v := _) rfl (by kernel_rfl) (by kernel_rfl) (by kernel_rfl) (fun _ _ _ h => h) (Or.inl ⟨by rfl, ?hya4⟩) hS ?resta4
        case hya4 => (intro wz hSw; (try dsimp only at hSw); go_simp; try with_reducible rfl)
        try simp only [Act.put, List.setIfInBounds_toArray, List.set_cons_zero, List.set_cons_succ]
        refine' wpAnyH_take (i := 5) (oi := ⟨_, _, _, _, _, _⟩) (v := _) rfl (by kernel_rfl) (by kernel_rfl) (by kernel_rfl) (fun _ _ _ h => h) (Or.inl ⟨by rfl, ?hya5⟩) hS ?resta5
        case hya5 => (intro wz hSw; (try dsimp only at hSw); go_simp; try with_reducible rfl)
        try simp only [Act.put, List.setIfInBounds_toArray, List.set_cons_zero, List.set_cons_succ]
        refine wpAnyH_ready (rs := [1]) (by kernel_rfl) (by simp) (AllReadyH.cons rfl (fun K hK => ?_) AllReadyH.nil)
        go_simp
        go_wp2_with fail
        refine hK.out _ _ (heldS5 (below_new_drew w5 (.cells #[.int .i64 r] 3)) hS) (fun hSn => ?_)
        clear hS
        have hS := hSn
        clear hSn
        clear hK K
        try simp only [Act.put, List.setIfInBounds_toArray, List.set_cons_zero, List.set_cons_succ]
        generalize hw6 : w5.alloc (.cells #[.int .i64 r] 3) = w6 at *
        replace hw6 := Lib.hid hw6
        refine' wpAnyH_take (i := 3) (oi := ⟨_, _, _, _, _, _⟩) (v := _) rfl (by kernel_rfl) (by kernel_rfl) (by kernel_rfl) (fun _ _ _ h => h) (Or.inl ⟨by rfl, ?hya3⟩) hS ?resta3
        case hya3 => (intro wz hSw; (try dsimp only at hSw); go_simp; try with_reducible rfl)
        try simp only [Act.put, List.setIfInBounds_toArray, List.set_cons_zero, List.set_cons_succ]
        have j0 := blk_cell hr6.out 0 _ rfl
        have j1 := blk_cell hr6.out 1 _ rfl
        have j2 := blk_cell hr6.out 2 _ rfl
        have j3 := blk_cell hr6.out 3 _ rfl
        have j4 := blk_cell hr6.out 4 _ rfl
        have f0 := blk_thaw hr6.out 0
        have f1 := blk_thaw hr6.out 1
        have f2 := blk_thaw hr6.out 2
        have f3 := blk_thaw hr6.out 3
        have f4 := blk_thaw hr6.out 4
        refine wpAnyH_ready (rs := [6]) (by kernel_rfl) (by simp) (AllReadyH.cons rfl (fun K hK => ?_) AllReadyH.nil)
        go_simp
        go_wp2_with fail
        refine hK.out _ _ (held_set5 n1.out n2.out hS) (fun hSn => ?_)
        clear hS
        have hS := hSn
        clear hSn
        clear hK K
        try simp only [Act.put, List.setIfInBounds_toArray, List.set_cons_zero, List.set_cons_succ]
        clear j0 j1 j2 j3 j4 f0 f1 f2 f3 f4
        refine' wpAnyH_take (i := 7) (oi := ⟨_, _, _, _, _, _⟩) (v := _) rfl (by kernel_rfl) (by kernel_rfl) (by kernel_rfl) (fun _ _ _ h => h) (Or.inl ⟨by rfl, ?hya7⟩) hS ?resta7
        case hya7 => (intro wz hSw; (try dsimp only at hSw); go_simp; try with_reducible rfl)
        try simp only [Act.put, List.setIfInBounds_toArray, List.set_cons_zero, List.set_cons_succ]
        refine wpAnyH_done (by kernel_rfl) ?_ _
        clear hS
        have d0 := blk_cell hfin.out 0 _ rfl
        have d1 := blk_cell hfin.out 1 _ rfl
        have d2 := blk_cell hfin.out 2 _ rfl
        have d3 := blk_cell hfin.out 3 _ rfl
        have d4 := blk_cell hfin.out 4 _ rfl
        go_wp2_with fail
        refine bodyPost_ret (v := .tuple #[.agg #[.slice (some ⟨w5.heap.size, 0, none⟩) 1 1, .bool xa, .int .i64 xb, .bool xc, .bool xd], .slice p l.length cap]) ?_ rfl ⟨_, _, rfl, o7.out, .inl ⟨rfl, rfl⟩, b7.out.drew⟩
        simp [results, Tryz.results37, go_sem, d0, d1, d2, d3, d4]
      | false =>
        by_cases h32 : l.length = 32
        · rw [hcut h0 (.inr h32)]
          have h3 : ((l.length : Int) == 32) = true := beq_iff_eq.2 (by omega)
          replace h32 := Lib.hid h32
          clear hgo hcut
          go_enter Tryz.func37, Tryz.ntmps37
          go_upto_region 1 with (fail)
          rw [hW.out]
          have c0 := blk_cell hbox.out 0 _ rfl
          have c1 := blk_cell hbox.out 1 _ rfl
          have c2 := blk_cell hbox.out 2 _ rfl
          have c3 := blk_cell hbox.out 3 _ rfl
          have c4 := blk_cell hbox.out 4 _ rfl
          go_wp2_with fail
          refine hsane.out.mono ?_
          rintro e w2 ⟨rfl, q2⟩
          have hr2 := Lib.hid (blk_below hres.out q2)
          have hx2 := Lib.hid (blk_below hbox.out q2)
          have hv2 := Lib.hid (ri_below hvW.out q2)
          replace q2 := Lib.hid (hb0.out.trans (q2.mono hb0.out.size))
          clear c0 c1 c2 c3 c4
          go_upto_region 3 with (fail)
          obtain ⟨W2, hW2⟩ : ∃ W2, w2 = W2 := ⟨_, rfl⟩
          subst hW2
          have c1 := blk_cell hx2.out 1 _ rfl
          have c2 := blk_cell hx2.out 2 _ rfl
          have c3 := blk_cell hx2.out 3 _ rfl
          have c4 := blk_cell hx2.out 4 _ rfl
          go_wp2_with fail
          refine (hnext.out _).mono ?_
          rintro e w3 ⟨rfl, q3⟩
          have hk1 : w.heap.size + 1 < w3.heap.size := blk_lt (blk_below hr2.out q3)
          have hx4 := Lib.hid (blk_alloc (blk_below hx2.out q3) (.cells #[.bool xa, .int .i64 xb, .bool xc, .bool xd] 28))
          have hr4 := Lib.hid (blk_alloc (blk_below hr2.out q3) (.cells #[.bool xa, .int .i64 xb, .bool xc, .bool xd] 28))
          have hk4 := Lib.hid (blk_new w3 #[.bool xa, .int .i64 xb, .bool xc, .bool xd] 28)
          have hv4 := Lib.hid (ri_below (ri_below hv2.out q3) (below_new w3 (.cells #[.bool xa, .int .i64 xb, .bool xc, .bool xd] 28)))
          have hb4 := Lib.hid ((below_on q2.out q3).alloc (below_on q2.out q3).size (.cells #[.bool xa, .int .i64 xb, .bool xc, .bool xd] 28))
          clear c1 c2 c3 c4 q3 q2 hx2 hr2 hv2
          go_upto_region 4 with (fail)
          generalize hW4 : w3.alloc (.cells #[.bool xa, .int .i64 xb, .bool xc, .bool xd] 28) = W4 at *
          replace hW4 := Lib.hid hW4
          have c0 := blk_cell hx4.out 0 _ rfl
          have c1 := blk_cell hx4.out 1 _ rfl
          have c2 := blk_cell hx4.out 2 _ rfl
          have c3 := blk_cell hx4.out 3 _ rfl
          have c4 := blk_cell hx4.out 4 _ rfl
          go_wp2_with fail
          refine (hends.out _).mono ?_
          rintro e w5 ⟨rfl, q5⟩
          have hx5 := Lib.hid (blk_below hx4.out q5)
          have hr5 := Lib.hid (blk_below hr4.out q5)
          have hk5 := Lib.hid (blk_below hk4.out q5)
          have hv5 := Lib.hid (ri_below hv4.out q5)
          have hb5 := Lib.hid (below_on hb4.out q5)
          clear c0 c1 c2 c3 c4 q5 hx4 hr4 hk4 hv4 hb4
          have c0 := blk_cell hx5.out 0 _ rfl
          go_upto_region 5 with (fail)
          have k0 := blk_cell hk5.out 0 _ rfl
          have k1 := blk_cell hk5.out 1 _ rfl
          have k2 := blk_cell hk5.out 2 _ rfl
          have k3 := blk_cell hk5.out 3 _ rfl
          have hr6 := Lib.hid (blk_alloc hr5.out (.cells #[.int .i64 r] 3))
          have hlow : w.heap.size + 1 < w5.heap.size := blk_lt hr5.out
          have o6 := Lib.hid (ownI_lit (w.heap.size + 2) w5 [r] #[.int .i64 r] w5.heap.size 1 rfl (by omega) rfl rfl (by unfold maxLen; omega))
          have b6 := Lib.hid (hb5.out.alloc hb5.out.size (.cells #[.int .i64 r] 3))
          have o7 := Lib.hid (ownI_mono (ownI_set5 o6.out (show w.heap.size + 1 < w.heap.size + 2 by omega) (.slice (some ⟨w5.heap.size, 0, none⟩) 1 1) (.bool xa) (.int .i64 xb) (.bool xc) (.bool xd)) (show w.heap.size ≤ w.heap.size + 2 by omega))
          have b7 := Lib.hid (below_set5 b6.out (Nat.le_succ _) (.slice (some ⟨w5.heap.size, 0, none⟩) 1 1) (.bool xa) (.int .i64 xb) (.bool xc) (.bool xd))
          have hfin := Lib.hid (blk_set5 hr6.out (.slice (some ⟨w5.heap.size, 0, none⟩) 1 1) (.bool xa) (.int .i64 xb) (.bool xc) (.bool xd))
          have n1 := Lib.hid (show w.heap.size + 1 ≠ w3.heap.size by omega)
          have n2 := Lib.hid (show w.heap.size + 1 ≠ w.heap.size by omega)
          refine wp_region_held_drew (S := fun w' => w'.cell? ⟨w3.heap.size, 0, none⟩ = some (.bool xa) ∧ w'.cell? ⟨w3.heap.size, 1, none⟩ = some (.int .i64 xb) ∧ w'.cell? ⟨w3.heap.size, 2, none⟩ = some (.bool xc) ∧ w'.cell? ⟨w3.heap.size, 3, none⟩ = some (.bool xd) ∧ w'.cell? ⟨w.heap.size, 0, none⟩ = some (.slice p l.length cap)) (by kernel_rfl) (⟨k0, k1, k2, k3, c0⟩) (fun hS => ?_)
          refine' wpAnyH_take (i := 0) (oi := ⟨_, _, _, _, _, _⟩) (v := _) rfl (by kernel_rfl) (by kernel_rfl) (by kernel_rfl) (fun _ _ _ h => h) (Or.inl ⟨by rfl, ?hyb0⟩) hS ?restb0
          case hyb0 => (intro wz hSw; (try dsimp only at hSw); go_simp; try with_reducible rfl)
          try simp only [Act.put, List.setIfInBounds_toArray, List.set_cons_zero, List.set_cons_succ]
          refine' wpAnyH_take (i := 2) (oi := ⟨_, _, _, _, _, _⟩) (v := _) rfl (by kernel_rfl) (by kernel_rfl) (by kernel_rfl) (fun _ _ _ h => h) (Or.inl ⟨by rfl, ?hyb2⟩) hS ?restb2
          case hyb2 => (intro wz hSw; (try dsimp only at hSw); go_simp; try with_reducible rfl)
          try simp only [Act.put, List.setIfInBounds_toArray, List.set_cons_zero, List.set_cons_succ]
          refine' wpAnyH_take (i := 4) (oi := ⟨_, _, _, _, _, _⟩) (v := _) rfl (by kernel_rfl) (by kernel_rfl) (by kernel_rfl) (fun _ _ _ h => h) (Or.inl ⟨by rfl, ?hyb4⟩) hS ?restb4
          case hyb4 => (intro wz hSw; (try dsimp only at hSw); go_simp; try with_reducible rfl)
          try simp only [Act.put, List.setIfInBounds_toArray, List.set_cons_zero, List.set_cons_succ]
          refine' wpAnyH_take (i := 5) (oi := ⟨_, _, _, _, _, _⟩) (v := _) rfl (by kernel_rfl) (by kernel_rfl) (by kernel_rfl) (fun _ _ _ h => h) (Or.inl ⟨by rfl, ?hyb5⟩) hS ?restb5
          case hyb5 => (intro wz hSw; (try dsimp only at hSw); go_simp; try with_reducible rfl)
          try simp only [Act.put, List.setIfInBounds_toArray, List.set_cons_zero, List.set_cons_succ]
          refine wpAnyH_ready (rs := [1]) (by kernel_rfl) (by simp) (AllReadyH.cons rfl (fun K hK => ?_) AllReadyH.nil)
          go_simp
          go_wp2_with fail
          refine hK.out _ _ (heldS5 (below_new_drew w5 (.cells #[.int .i64 r] 3)) hS) (fun hSn => ?_)
          clear hS
          have hS := hSn
          clear hSn
          clear hK K
          try simp only [Act.put, List.setIfInBounds_toArray, List.set_cons_zero, List.set_cons_succ]
          generalize hw6 : w5.alloc (.cells #[.int .i64 r] 3) = w6 at *
          replace hw6 := Lib.hid hw6
          refine' wpAnyH_take (i := 3) (oi := ⟨_, _, _, _, _, _⟩) (v := _) rfl (by kernel_rfl) (by kernel_rfl) (by kernel_rfl) (fun _ _ _ h => h) (Or.inl ⟨by rfl, ?hyb3⟩) hS ?restb3
          case hyb3 => (intro wz hSw; (try dsimp only at hSw); go_simp; try with_reducible rfl)
          try simp only [Act.put, List.setIfInBounds_toArray, List.set_cons_zero, List.set_cons_succ]
          have j0 := blk_cell hr6.out 0 _ rfl
          have j1 := blk_cell hr6.out 1 _ rfl
          have j2 := blk_cell hr6.out 2 _ rfl
          have j3 := blk_cell hr6.out 3 _ rfl
          have j4 := blk_cell hr6.out 4 _ rfl
          have f0 := blk_thaw hr6.out 0
          have f1 := blk_thaw hr6.out 1
          have f2 := blk_thaw hr6.out 2
          have f3 := blk_thaw hr6.out 3
          have f4 := blk_thaw hr6.out 4
          refine wpAnyH_ready (rs := [6]) (by kernel_rfl) (by simp) (AllReadyH.cons rfl (fun K hK => ?_) AllReadyH.nil)
          go_simp
          go_wp2_with fail
          refine hK.out _ _ (held_set5 n1.out n2.out hS) (fun hSn => ?_)
          clear hS
          have hS := hSn
          clear hSn
          clear hK K
          try simp only [Act.put, List.setIfInBounds_toArray, List.set_cons_zero, List.set_cons_succ]
          clear j0 j1 j2 j3 j4 f0 f1 f2 f3 f4
          refine' wpAnyH_take (i := 7) (oi := ⟨_, _, _, _, _, _⟩) (v := _) rfl (by kernel_rfl) (by kernel_rfl) (by kernel_rfl) (fun _ _ _ h => h) (Or.inl ⟨by rfl, ?hyb7⟩) hS ?restb7
          case hyb7 => (intro wz hSw; (try dsimp only at hSw); go_simp; try with_reducible rfl)
          try simp only [Act.put, List.setIfInBounds_toArray, List.set_cons_zero, List.set_cons_succ]
          refine wpAnyH_done (by kernel_rfl) ?_ _
          clear hS
          have d0 := blk_cell hfin.out 0 _ rfl
          have d1 := blk_cell hfin.out 1 _ rfl
          have d2 := blk_cell hfin.out 2 _ rfl
          have d3 := blk_cell hfin.out 3 _ rfl
          have d4 := blk_cell hfin.out 4 _ rfl
          go_wp2_with fail
          refine bodyPost_ret (v := .tuple #[.agg #[.slice (some ⟨w5.heap.size, 0, none⟩) 1 1, .bool xa, .int .i64 xb, .bool xc, .bool xd], .slice p l.length cap]) ?_ rfl ⟨_, _, rfl, o7.out, .inl ⟨rfl, rfl⟩, b7.out.drew⟩
          simp [results, Tryz.results37, go_sem, d0, d1, d2, d3, d4]
        · rw [hgo (.inr ⟨rfl, h32⟩)]
          have h3 : ((l.length : Int) == 32) = false := beq_eq_false_iff_ne.2 (by omega)
          clear hgo hcut h32
          go_enter Tryz.func37, Tryz.ntmps37
          go_upto_region 1 with (fail)
          rw [hW.out]
          have c0 := blk_cell hbox.out 0 _ rfl
          have c1 := blk_cell hbox.out 1 _ rfl
          have c2 := blk_cell hbox.out 2 _ rfl
          have c3 := blk_cell hbox.out 3 _ rfl
          have c4 := blk_cell hbox.out 4 _ rfl
          go_wp2_with fail
          refine hsane.out.mono ?_
          rintro e w2 ⟨rfl, q2⟩
          have hr2 := Lib.hid (blk_below hres.out q2)
          have hx2 := Lib.hid (blk_below hbox.out q2)
          have hv2 := Lib.hid (ri_below hvW.out q2)
          replace q2 := Lib.hid (hb0.out.trans (q2.mono hb0.out.size))
          clear c0 c1 c2 c3 c4
          go_upto_region 3 with (fail)
          obtain ⟨W2, hW2⟩ : ∃ W2, w2 = W2 := ⟨_, rfl⟩
          subst hW2
          have c1 := blk_cell hx2.out 1 _ rfl
          have c2 := blk_cell hx2.out 2 _ rfl
          have c3 := blk_cell hx2.out 3 _ rfl
          have c4 := blk_cell hx2.out 4 _ rfl
          go_wp2_with fail
          refine (hnext.out _).mono ?_
          rintro e w3 ⟨rfl, q3⟩
          have hk1 : w.heap.size + 1 < w3.heap.size := blk_lt (blk_below hr2.out q3)
          have hx4 := Lib.hid (blk_alloc (blk_below hx2.out q3) (.cells #[.bool xa, .int .i64 xb, .bool xc, .bool xd] 28))
          have hr4 := Lib.hid (blk_alloc (blk_below hr2.out q3) (.cells #[.bool xa, .int .i64 xb, .bool xc, .bool xd] 28))
          have hk4 := Lib.hid (blk_new w3 #[.bool xa, .int .i64 xb, .bool xc, .bool xd] 28)
          have hv4 := Lib.hid (ri_below (ri_below hv2.out q3) (below_new w3 (.cells #[.bool xa, .int .i64 xb, .bool xc, .bool xd] 28)))
          have hb4 := Lib.hid ((below_on q2.out q3).alloc (below_on q2.out q3).size (.cells #[.bool xa, .int .i64 xb, .bool xc, .bool xd] 28))
          clear c1 c2 c3 c4 q3 q2 hx2 hr2 hv2
          go_upto_region 4 with (fail)
          generalize hW4 : w3.alloc (.cells #[.bool xa, .int .i64 xb, .bool xc, .bool xd] 28) = W4 at *
          replace hW4 := Lib.hid hW4
          have c0 := blk_cell hx4.out 0 _ rfl
          have c1 := blk_cell hx4.out 1 _ rfl
          have c2 := blk_cell hx4.out 2 _ rfl
          have c3 := blk_cell hx4.out 3 _ rfl
          have c4 := blk_cell hx4.out 4 _ rfl
          go_wp2_with fail
          refine (hends.out _).mono ?_
          rintro e w5 ⟨rfl, q5⟩
          have hx5 := Lib.hid (blk_below hx4.out q5)
          have hr5 := Lib.hid (blk_below hr4.out q5)
          have hk5 := Lib.hid (blk_below hk4.out q5)
          have hv5 := Lib.hid (ri_below hv4.out q5)
          have hb5 := Lib.hid (below_on hb4.out q5)
          clear c0 c1 c2 c3 c4 q5 hx4 hr4 hk4 hv4 hb4
          have c0 := blk_cell hx5.out 0 _ rfl
          have e6 := Lib.hid (ownI_lit w5.heap.size w5 [] #[] w5.heap.size 0 rfl (Nat.le_refl _) rfl rfl (by unfold maxLen; omega))
          have s6 := Lib.hid (ri_src (ri_below hv5.out (below_new w5 (.cells #[] 3))))
          have g6 := Lib.hid (below_new w5 (.cells #[] 3))
          have y0 := blk_cell (blk_alloc hx5.out (.cells #[] 3)) 0 _ rfl
          go_upto_region 6 with (fail)
          go_upto_region 7 with (at_builtin; refine wpList_append_src rfl _ _ 24 rfl w5.heap.size 3 i0 (.int .i64 0) 8 Tryz.underlying24 hi hz0 hz1 hz2 rfl _ _ _ rfl e6.out _ _ rfl s6.out (oneCellI _) (by simp only [List.length_map, List.length_append, List.length_take, List.length_drop, List.length_cons, List.length_nil, List.length_singleton]; unfold maxLen; omega) (by simp only [List.length_map, List.length_append, List.length_take, List.length_drop, List.length_cons, List.length_nil, List.length_singleton]; omega) g6.out.size ?_; intro v7 w7 ho7 hg7; have o7 := Lib.hid (ownI_of_row (l := [] ++ l) ho7 (by (try simp); try omega) (by (try simp); try omega)); have b7 := Lib.hid (below_row g6.out hg7 g6.out.size e6.out (Nat.le_refl _)); clear ho7 hg7)
          have hkk : w3.heap.size < w5.heap.size := blk_lt hk5.out
          have hrr : w.heap.size + 1 < w5.heap.size := by omega
          clear y0 e6 s6 g6
          have bb7 := Lib.hid (below_on hb5.out b7.out)
          have e8 := Lib.hid (ownI_alloc o7.out (.cells #[.int .i64 r] 3))
          have s8 := Lib.hid (ri_src (ri_of_own (ownI_lit w.heap.size w7 [r] #[.int .i64 r] w7.heap.size 1 rfl bb7.out.size rfl rfl (by unfold maxLen; omega))))
          have g8 := Lib.hid (b7.out.alloc b7.out.size (.cells #[.int .i64 r] 3))
          go_upto_region 8 with (at_builtin; refine wpList_append_src rfl _ _ 24 rfl w5.heap.size 3 i0 (.int .i64 0) 8 Tryz.underlying24 hi hz0 hz1 hz2 rfl _ _ _ rfl e8.out _ _ rfl s8.out (oneCellI _) (by simp only [List.length_map, List.length_append, List.length_take, List.length_drop, List.length_cons, List.length_nil, List.length_singleton]; unfold maxLen; omega) (by simp only [List.length_map, List.length_append, List.length_take, List.length_drop, List.length_cons, List.length_nil, List.length_singleton]; omega) g8.out.size ?_; intro v9 w9 ho9 hg9; have o9 := Lib.hid (ownI_of_row (l := ([] ++ l) ++ [r]) ho9 (by (try simp); try omega) (by (try simp); try omega)); have b9 := Lib.hid (below_row g8.out hg9 g8.out.size e8.out (Nat.le_refl _)); clear ho9 hg9)
          have hr9 := blk_lowS hr5.out hrr b9.out
          have hk9 := blk_lowS hk5.out hkk b9.out
          have hb9 := below_on hb5.out b9.out
          have j0 := blk_cell hr9 0 _ rfl
          have j1 := blk_cell hr9 1 _ rfl
          have j2 := blk_cell hr9 2 _ rfl
          have j3 := blk_cell hr9 3 _ rfl
          have j4 := blk_cell hr9 4 _ rfl
          have f0 := blk_thaw hr9 0
          have f1 := blk_thaw hr9 1
          have f2 := blk_thaw hr9 2
          have f3 := blk_thaw hr9 3
          have f4 := blk_thaw hr9 4
          have k0 := blk_cell hk9 0 _ rfl
          have k1 := blk_cell hk9 1 _ rfl
          have k2 := blk_cell hk9 2 _ rfl
          have k3 := blk_cell hk9 3 _ rfl
          obtain ⟨M, hM⟩ : ∃ M, ([] ++ l) ++ [r] = M := ⟨_, rfl⟩
          rw [hM] at o9
          obtain ⟨p9, c9, rfl⟩ := ri_form (ri_of_own o9.out)
          have o10 := Lib.hid (ownI_mono (ownI_set5 o9.out hrr (.slice p9 M.length c9) (.bool xa) (.int .i64 xb) (.bool xc) (.bool xd)) (show w.heap.size ≤ w5.heap.size by omega))
          have b10 := Lib.hid (below_set5 hb9 (Nat.le_succ _) (.slice p9 M.length c9) (.bool xa) (.int .i64 xb) (.bool xc) (.bool xd))
          have hfin := Lib.hid (blk_set5 hr9 (.slice p9 M.length c9) (.bool xa) (.int .i64 xb) (.bool xc) (.bool xd))
          replace hM := Lib.hid hM
          replace hr9 := Lib.hid hr9
          replace hk9 := Lib.hid hk9
          replace hb9 := Lib.hid hb9
          clear e8 s8 g8 hkk hrr bb7
          go_wp2_with fail
          have d0 := blk_cell hfin.out 0 _ rfl
          have d1 := blk_cell hfin.out 1 _ rfl
          have d2 := blk_cell hfin.out 2 _ rfl
          have d3 := blk_cell hfin.out 3 _ rfl
          have d4 := blk_cell hfin.out 4 _ rfl
          refine bodyPost_ret (v := .tuple #[.agg #[.slice p9 M.length c9, .bool xa, .int .i64 xb, .bool xc, .bool xd], .slice none 0 0]) ?_ rfl ⟨_, _, rfl, ownI_cast o10.out (by rw [← hM.out]; rfl), .inr ⟨rfl, rfl⟩, b10.out⟩
          simp [results, Tryz.results37, go_sem, d0, d1, d2, d3, d4]
end Go.Proofs.YtiidjkhkcckmkaaGreatDoor

