/- Layer 11: the code's Sane, together, parted, known. -/
import Derived.Test.YtconccgfhdmafaaClS
import Derived.Test.YtconccgfhdmafaaCl4
namespace Go.Proofs.Ytconccgfhdmafaa
set_option linter.unusedSimpArgs false
set_option linter.unusedVariables false
open Go.RowKit Go.Lib

set_option maxHeartbeats 6400000 in
set_option maxRecDepth 100000 in
theorem csane_any (s : Clu.CS) (w : World) : Calls Try.prog 54 #[csV s] w fun e w' => e = .returned (.bool (Clu.saneB s)) ∧ Below w.heap.size w w' := by
  obtain ⟨on, k, p, o⟩ := s
  obtain ⟨R, hR⟩ : ∃ R, Clu.saneB ⟨on, k, p, o⟩ = R := ⟨_, rfl⟩
  rw [hR]
  unfold csV
  dsimp only
  unfold Clu.saneB Clu.zero at hR
  replace hR := Lib.hid hR
  rcases on with _ | _ <;> rcases p with _ | _ <;> rcases o with _ | _
  all_goals
    go_enter Try.func54, Try.ntmps54
    go_wp2_with fail
  all_goals
    go_ret
    refine ⟨ret_bool ?_, below_new w _⟩
    rw [← hR.out]
    first | (simp [*]; done) | (simp_all; done) | (simp_all; omega) | (simp at *; omega) | (rw [Bool.eq_iff_iff]; simp_all; done) | (rw [Bool.eq_iff_iff]; simp_all; omega)

/-- does a value of kind k, which neither controls nor extends, go with what came? -/
def togB (s : Clu.CS) (k : Int) : Bool :=
  decide (s.kind = 9 ∧ (k = 9 ∨ k = 10 ∨ k = 12 ∨ k = 13)) || decide ((s.kind = 10 ∨ s.kind = 12) ∧ (k = 10 ∨ k = 11)) || decide ((s.kind = 11 ∨ s.kind = 13) ∧ k = 11) || decide (s.kind = 7) || (decide (s.kind = 5) && s.pict && decide (k = 14)) || (decide (s.kind = 6) && s.odd && decide (k = 6))

/-- does what came end ahead of a value of kind k? -/
def partB (s : Clu.CS) (k : Int) : Bool :=
  if s.kind = 1 ∧ k = 2 then false else if (1 ≤ s.kind ∧ s.kind ≤ 3) ∨ (1 ≤ k ∧ k ≤ 3) then true else !(decide (k = 4 ∨ k = 5 ∨ k = 8) || togB s k)

theorem ends_part (s : Clu.CS) (k : Int) : Clu.endsK s k = if Clu.saneB s = false ∨ s.on = false then false else partB s k := by
  unfold Clu.endsK partB togB Clu.staysB
  by_cases h1 : Clu.saneB s = false ∨ s.on = false
  · rw [if_pos h1, if_pos h1]
  · rw [if_neg h1, if_neg h1]
    by_cases h2 : s.kind = 1 ∧ k = 2
    · rw [if_pos h2, if_pos h2]
    · rw [if_neg h2, if_neg h2]
      by_cases h3 : (1 ≤ s.kind ∧ s.kind ≤ 3) ∨ (1 ≤ k ∧ k ≤ 3)
      · rw [if_pos h3, if_pos h3]
      · rw [if_neg h3, if_neg h3, Bool.eq_iff_iff]
        generalize s.kind = a
        generalize s.pict = p
        generalize s.odd = o
        rcases p with _ | _ <;> rcases o with _ | _ <;> simp <;> omega

set_option maxHeartbeats 6400000 in
set_option maxRecDepth 100000 in
theorem ctog_any (s : Clu.CS) (g : Int) (w : World) : Calls Try.prog 56 #[csV s, .int .i64 g] w fun e w' => e = .returned (.bool (togB s g)) ∧ Below w.heap.size w w' := by
  obtain ⟨on, k, p, o⟩ := s
  obtain ⟨R, hR⟩ : ∃ R, togB ⟨on, k, p, o⟩ g = R := ⟨_, rfl⟩
  rw [hR]
  unfold csV
  dsimp only
  unfold togB at hR
  dsimp only at hR
  replace hR := Lib.hid hR
  rcases p with _ | _ <;> rcases o with _ | _
  all_goals
    go_enter Try.func56, Try.ntmps56
    go_wp2_with fail
  all_goals
    go_ret
    refine ⟨ret_bool ?_, below_new w _⟩
    rw [← hR.out]
    first | (simp [*]; done) | (simp_all; done) | (simp_all; omega) | (simp at *; omega) | (rw [Bool.eq_iff_iff]; simp_all; done) | (rw [Bool.eq_iff_iff]; simp_all; omega)

set_option maxHeartbeats 6400000 in
set_option maxRecDepth 100000 in
theorem cpart_any (s : Clu.CS) (g : Int) (w : World) : Calls Try.prog 53 #[csV s, .int .i64 g] w fun e w' => e = .returned (.bool (partB s g)) ∧ Below w.heap.size w w' := by
  have htog := fun W => ctog_any s g W
  obtain ⟨on, k, p, o⟩ := s
  obtain ⟨T, hT⟩ : ∃ T, togB ⟨on, k, p, o⟩ g = T := ⟨_, rfl⟩
  obtain ⟨R, hR⟩ : ∃ R, partB ⟨on, k, p, o⟩ g = R := ⟨_, rfl⟩
  rw [hR]
  rw [hT] at htog
  unfold csV at htog ⊢
  dsimp only at htog ⊢
  unfold partB at hR
  rw [hT] at hR
  dsimp only at hR
  have hbel := Lib.hid (below_new w (.cells #[.bool on, .int .i64 k, .bool p, .bool o] 69))
  replace hR := Lib.hid hR
  replace htog := Lib.hid htog
  clear hT
  go_enter Try.func53, Try.ntmps53
  go_wp2_with first | (refine (htog.out _).mono ?_; rintro e w1 ⟨rfl, hb1⟩; replace hbel := Lib.hid (below_on hbel.out hb1); clear hb1) | fail
  all_goals
    go_ret
    refine ⟨ret_bool ?_, hbel.out⟩
    rw [← hR.out]
    first | (simp [*]; done) | (simp_all; done) | (simp_all; omega) | (simp at *; omega) | (rw [Bool.eq_iff_iff]; simp_all; done) | (rw [Bool.eq_iff_iff]; simp_all; omega)

/-- what is known: nothing, of what may not be -/
def knownC (s : Clu.CS) : Clu.CS := if Clu.saneB s = true then s else Clu.zero

set_option maxHeartbeats 6400000 in
set_option maxRecDepth 100000 in
theorem cknown_any (s : Clu.CS) (w : World) : Calls Try.prog 51 #[csV s] w fun e w' => e = .returned (csV (knownC s)) ∧ Below w.heap.size w w' := by
  have hsane := fun W => csane_any s W
  obtain ⟨S, hS⟩ : ∃ S, Clu.saneB s = S := ⟨_, rfl⟩
  have hK : knownC s = if S = true then s else Clu.zero := by unfold knownC; rw [hS]
  rw [hS] at hsane
  obtain ⟨on, k, p, o⟩ := s
  unfold csV at hsane
  dsimp only at hsane
  have hb0 := blk_new w #[.bool on, .int .i64 k, .bool p, .bool o] 69
  have hb := blk_alloc hb0 (.cells #[.bool false, .int .i64 0, .bool false, .bool false] 69)
  have hres := blk_new (w.alloc (.cells #[.bool on, .int .i64 k, .bool p, .bool o] 69)) #[.bool false, .int .i64 0, .bool false, .bool false] 69
  rw [show (w.alloc (.cells #[.bool on, .int .i64 k, .bool p, .bool o] 69)).heap.size = w.heap.size + 1 by simp] at hres
  have hbel : Below w.heap.size w ((w.alloc (.cells #[.bool on, .int .i64 k, .bool p, .bool o] 69)).alloc (.cells #[.bool false, .int .i64 0, .bool false, .bool false] 69)) := (below_new w _).alloc (by simp) _
  replace hbel := Lib.hid hbel
  replace hres := Lib.hid hres
  replace hb := Lib.hid hb
  replace hK := Lib.hid hK
  replace hsane := Lib.hid hsane
  clear hb0 hS
  unfold csV
  dsimp only
  go_enter Try.func51, Try.ntmps51
  go_wp2_with fail
  refine (hsane.out _).mono ?_
  rintro e w1 ⟨rfl, hb1⟩
  have hbx1 := blk_below hb.out hb1
  have hrs1 := blk_below hres.out hb1
  have c0 := blk_cell hbx1 0 (.bool on) rfl
  have c1 := blk_cell hbx1 1 (.int .i64 k) rfl
  have c2 := blk_cell hbx1 2 (.bool p) rfl
  have c3 := blk_cell hbx1 3 (.bool o) rfl
  have f0 := blk_thaw hrs1 0
  have f1 := blk_thaw hrs1 1
  have f2 := blk_thaw hrs1 2
  have f3 := blk_thaw hrs1 3
  have d0 := blk_cell hrs1 0 (.bool false) rfl
  have d1 := blk_cell hrs1 1 (.int .i64 0) rfl
  have d2 := blk_cell hrs1 2 (.bool false) rfl
  have d3 := blk_cell hrs1 3 (.bool false) rfl
  replace hb1 := Lib.hid (below_on hbel.out hb1)
  replace hrs1 := Lib.hid hrs1
  clear hb hbel hres hbx1
  rcases S with _ | _
  all_goals
    go_wp2_with fail
    rw [hK.out]
    clear hK
    have q0 := fun x0 x1 x2 x3 => (set4_cell hrs1.out x0 x1 x2 x3).1
    have q1 := fun x0 x1 x2 x3 => (set4_cell hrs1.out x0 x1 x2 x3).2.1
    have q2 := fun x0 x1 x2 x3 => (set4_cell hrs1.out x0 x1 x2 x3).2.2.1
    have q3 := fun x0 x1 x2 x3 => (set4_cell hrs1.out x0 x1 x2 x3).2.2.2
    first
      | refine bodyPost_ret (v := .agg #[.bool on, .int .i64 k, .bool p, .bool o]) ?_ rfl ⟨rfl, below_set4 hb1.out (Nat.le_succ _) _ _ _ _⟩; simp [results, Try.results51, go_sem, q0, q1, q2, q3]; done
      | refine bodyPost_ret (v := .agg #[.bool false, .int .i64 0, .bool false, .bool false]) ?_ rfl ⟨rfl, below_set4 hb1.out (Nat.le_succ _) _ _ _ _⟩; simp [results, Try.results51, go_sem, q0, q1, q2, q3]; done

end Go.Proofs.Ytconccgfhdmafaa
