/- Texts that stand together. -/
import Derived.Test.YtiidjkhkcckmkaaGreatDoorPrP
import Derived.Test.YtiidjkhkcckmkaaGreatDoorBasQ
import Derived.Test.YtiidjkhkcckmkaaGreatDoorBasP
import Derived.Test.YtiidjkhkcckmkaaGreatDoorKP
import Derived.Deep.RegionHeld3
import Derived.WalkKit
import Derived.Deep.RegionHeld
import Derived.OrdersHeld
/- Layer 3: Gcb. -/
namespace Go.Proofs.YtiidjkhkcckmkaaGreatDoor
set_option linter.unusedSimpArgs false
set_option linter.unusedVariables false
open Go.RowKit Go.Lib
set_option maxRecDepth 100000 in
set_option maxHeartbeats 1600000 in
theorem listed_any (r : Int) (w : World) :
    Calls Tryz.prog 191 #[.int .i64 r] w fun e w' => e = .returned (.int .i64 (Prp.kndI r)) ∧ Below w.heap.size w w' := by
  unfold Prp.kndI
  go_enter Tryz.func191, Tryz.ntmps191
  go_upto_region 1 with (fail)
  refine wp_region_lit ?_
  refine wpList_runOps 55 (a' := { tmps := #[.int .i64 r, undef, .int .i64 0, undef, undef, undef, .int .i64 r, .agg #[.int .i64 0, .int .i64 9, .int .i64 3], .agg #[.int .i64 10, .int .i64 10, .int .i64 2], .agg #[.int .i64 11, .int .i64 12, .int .i64 3], .agg #[.int .i64 13, .int .i64 13, .int .i64 1], .agg #[.int .i64 14, .int .i64 31, .int .i64 3], .agg #[.int .i64 127, .int .i64 159, .int .i64 3], .agg #[.int .i64 169, .int .i64 169, .int .i64 14], .agg #[.int .i64 173, .int .i64 173, .int .i64 3], .agg #[.int .i64 174, .int .i64 174, .int .i64 14], .agg #[.int .i64 768, .int .i64 879, .int .i64 4], .agg #[.int .i64 1536, .int .i64 1541, .int .i64 7], .agg #[.int .i64 1564, .int .i64 1564, .int .i64 3], .agg #[.int .i64 1611, .int .i64 1631, .int .i64 4], .agg #[.int .i64 1757, .int .i64 1757, .int .i64 7], .agg #[.int .i64 2307, .int .i64 2307, .int .i64 8], .agg #[.int .i64 2363, .int .i64 2363, .int .i64 8], .agg #[.int .i64 2364, .int .i64 2364, .int .i64 4], .agg #[.int .i64 2366, .int .i64 2368, .int .i64 8], .agg #[.int .i64 2377, .int .i64 2380, .int .i64 8], .agg #[.int .i64 2381, .int .i64 2381, .int .i64 4], .agg #[.int .i64 4352, .int .i64 4447, .int .i64 9], .agg #[.int .i64 4448, .int .i64 4519, .int .i64 10], .agg #[.int .i64 4520, .int .i64 4607, .int .i64 11], .agg #[.int .i64 8203, .int .i64 8203, .int .i64 3], .agg #[.int .i64 8204, .int .i64 8204, .int .i64 4], .agg #[.int .i64 8205, .int .i64 8205, .int .i64 5], .agg #[.int .i64 8206, .int .i64 8207, .int .i64 3], .agg #[.int .i64 8232, .int .i64 8238, .int .i64 3], .agg #[.int .i64 8252, .int .i64 8252, .int .i64 14], .agg #[.int .i64 8265, .int .i64 8265, .int .i64 14], .agg #[.int .i64 8288, .int .i64 8303, .int .i64 3], .agg #[.int .i64 8400, .int .i64 8432, .int .i64 4], .agg #[.int .i64 8482, .int .i64 8482, .int .i64 14], .agg #[.int .i64 8505, .int .i64 8505, .int .i64 14], .agg #[.int .i64 8596, .int .i64 8601, .int .i64 14], .agg #[.int .i64 8986, .int .i64 8987, .int .i64 14], .agg #[.int .i64 9728, .int .i64 9732, .int .i64 14], .agg #[.int .i64 9745, .int .i64 9745, .int .i64 14], .agg #[.int .i64 9748, .int .i64 9749, .int .i64 14], .agg #[.int .i64 9786, .int .i64 9786, .int .i64 14], .agg #[.int .i64 9829, .int .i64 9829, .int .i64 14], .agg #[.int .i64 9889, .int .i64 9889, .int .i64 14], .agg #[.int .i64 9989, .int .i64 9989, .int .i64 14], .agg #[.int .i64 10084, .int .i64 10084, .int .i64 14], .agg #[.int .i64 12441, .int .i64 12442, .int .i64 4], .agg #[.int .i64 65024, .int .i64 65039, .int .i64 4], .agg #[.int .i64 65279, .int .i64 65279, .int .i64 3], .agg #[.int .i64 127462, .int .i64 127487, .int .i64 6], .agg #[.int .i64 127744, .int .i64 127994, .int .i64 14], .agg #[.int .i64 127995, .int .i64 127999, .int .i64 4], .agg #[.int .i64 128000, .int .i64 128591, .int .i64 14], .agg #[.int .i64 128640, .int .i64 128767, .int .i64 14], .agg #[.int .i64 129280, .int .i64 129535, .int .i64 14], .slice (some ⟨w.heap.size, 0, none⟩) 53 53, undef, undef, undef, undef, undef], defers := [] }) (w' := w.alloc (.cells (flat Prp.kinds).toArray 187)) (by kernel_rfl) ?_
  simp only [List.drop_succ_cons, List.drop_zero]
  go_wp2_with fail
  refine (find_any Prp.kinds Prp.sorted_kinds (by decide) _ r _ (rows_new w _ _ Prp.kinds rfl) 53 rfl).mono ?_
  rintro e w1 ⟨a, b, rfl, hb1⟩
  have hbel := Lib.hid (below_in hb1)
  clear hb1
  go_wp2_with fail
  go_ret
  exact ⟨rfl, hbel.out.trans ((below_new w1 _).mono hbel.out.size)⟩
set_option maxHeartbeats 800000 in
theorem gcb_any (r : Int) (w : World) :
    Calls Tryz.prog 171 #[.int .i64 r] w fun e w' => e = .returned (.int .i64 (Prp.gcbI r)) ∧ Below w.heap.size w w' := by
  unfold Prp.gcbI
  by_cases h : 0xAC00 ≤ r ∧ r ≤ 0xD7A3
  · simp only [if_pos h]
    obtain ⟨h1, h2⟩ := h
    have h1' : decide (r < 0xAC00) = false := by simp; omega
    have h2' : decide (0xD7A3 < r) = false := by simp; omega
    by_cases h3 : (r - 0xAC00) % 28 = 0
    · simp only [if_pos h3]
      go_enter Tryz.func171, Tryz.ntmps171
      go_wp2_with fail
      go_ret
      exact ⟨rfl, Below.refl _ _⟩
    · simp only [if_neg h3]
      have h3' : ((r - 0xAC00) % 28 == 0) = false := by simpa using h3
      go_enter Tryz.func171, Tryz.ntmps171
      go_wp2_with fail
      go_ret
      exact ⟨rfl, Below.refl _ _⟩
  · simp only [if_neg h]
    by_cases h1 : r < 0xAC00
    · clear h
      go_enter Tryz.func171, Tryz.ntmps171
      go_wp2_with fail
      refine (listed_any r _).mono ?_
      rintro e w1 ⟨rfl, hb1⟩
      replace hb1 := Lib.hid hb1
      go_wp2_with fail
      go_ret
      exact ⟨rfl, hb1.out⟩
    · have h1' : decide (r < 0xAC00) = false := by simp; omega
      have h2 : 0xD7A3 < r := by omega
      clear h
      go_enter Tryz.func171, Tryz.ntmps171
      go_wp2_with fail
      refine (listed_any r _).mono ?_
      rintro e w1 ⟨rfl, hb1⟩
      replace hb1 := Lib.hid hb1
      go_wp2_with fail
      go_ret
      exact ⟨rfl, hb1.out⟩
end Go.Proofs.YtiidjkhkcckmkaaGreatDoor

/- Layer 11: the code's Sane, together, parted, known. -/
namespace Go.Proofs.YtiidjkhkcckmkaaGreatDoor
set_option linter.unusedSimpArgs false
set_option linter.unusedVariables false
open Go.RowKit Go.Lib
set_option maxHeartbeats 6400000 in
set_option maxRecDepth 100000 in
theorem csane_any (s : Clu.CS) (w : World) : Calls Tryz.prog 81 #[csV s] w fun e w' => e = .returned (.bool (Clu.saneB s)) ∧ Below w.heap.size w w' := by
  obtain ⟨on, k, p, o⟩ := s
  obtain ⟨R, hR⟩ : ∃ R, Clu.saneB ⟨on, k, p, o⟩ = R := ⟨_, rfl⟩
  rw [hR]
  unfold csV
  dsimp only
  unfold Clu.saneB Clu.zero at hR
  replace hR := Lib.hid hR
  rcases on with _ | _ <;> rcases p with _ | _ <;> rcases o with _ | _
  all_goals
    go_enter Tryz.func81, Tryz.ntmps81
    go_wp2_with fail
  all_goals
    go_ret
    refine ⟨ret_bool ?_, below_new w _⟩
    rw [← hR.out]
    first | (simp [*]; done) | (simp_all; done) | (simp_all; omega) | (simp at *; omega) | (rw [Bool.eq_iff_iff]; simp_all; done) | (rw [Bool.eq_iff_iff]; simp_all; omega)
def togB (s : Clu.CS) (k : Int) : Bool :=
  decide (s.kind = 9 ∧ (k = 9 ∨ k = 10 ∨ k = 12 ∨ k = 13)) || decide ((s.kind = 10 ∨ s.kind = 12) ∧ (k = 10 ∨ k = 11)) || decide ((s.kind = 11 ∨ s.kind = 13) ∧ k = 11) || decide (s.kind = 7) || (decide (s.kind = 5) && s.pict && decide (k = 14)) || (decide (s.kind = 6) && s.odd && decide (k = 6))
def partB (s : Clu.CS) (k : Int) : Bool :=
  if s.kind = 1 ∧ k = 2 then false else if (1 ≤ s.kind ∧ s.kind ≤ 3) ∨ (1 ≤ k ∧ k ≤ 3) then true else !(decide (k = 4 ∨ k = 5 ∨ k = 8) || togB s k)
theorem ends_part (s : Clu.CS) (k : Int) : Clu.endsK s k = if Clu.saneB s = false ∨ s.on = false then false else partB s k := by
  unfold Clu.endsK partB togB Clu.staysB
  by_cases h1 : Clu.saneB s = false ∨ s.on = false
  · rw [if_pos h1, if_pos h1]
  · rw [if_neg h1, if_neg h1]
    by_cases h2 : s.kind = 1 ∧ k = 2
    · rw [if_pos h2, if_pos h2]
    · rw [if_neg h2, if_neg h2]
      by_cases h3 : (1 ≤ s.kind ∧ s.kind ≤ 3) ∨ (1 ≤ k ∧ k ≤ 3)
      · rw [if_pos h3, if_pos h3]
      · rw [if_neg h3, if_neg h3, Bool.eq_iff_iff]
        generalize s.kind = a
        generalize s.pict = p
        generalize s.odd = o
        rcases p with _ | _ <;> rcases o with _ | _ <;> simp <;> omega
set_option maxHeartbeats 6400000 in
set_option maxRecDepth 100000 in
theorem ctog_any (s : Clu.CS) (g : Int) (w : World) : Calls Tryz.prog 192 #[csV s, .int .i64 g] w fun e w' => e = .returned (.bool (togB s g)) ∧ Below w.heap.size w w' := by
  obtain ⟨on, k, p, o⟩ := s
  obtain ⟨R, hR⟩ : ∃ R, togB ⟨on, k, p, o⟩ g = R := ⟨_, rfl⟩
  rw [hR]
  unfold csV
  dsimp only
  unfold togB at hR
  dsimp only at hR
  replace hR := Lib.hid hR
  rcases p with _ | _ <;> rcases o with _ | _
  all_goals
    go_enter Tryz.func192, Tryz.ntmps192
    go_wp2_with fail
  all_goals
    go_ret
    refine ⟨ret_bool ?_, below_new w _⟩
    rw [← hR.out]
    first | (simp [*]; done) | (simp_all; done) | (simp_all; omega) | (simp at *; omega) | (rw [Bool.eq_iff_iff]; simp_all; done) | (rw [Bool.eq_iff_iff]; simp_all; omega)
set_option maxHeartbeats 6400000 in
set_option maxRecDepth 100000 in
theorem cpart_any (s : Clu.CS) (g : Int) (w : World) : Calls Tryz.prog 172 #[csV s, .int .i64 g] w fun e w' => e = .returned (.bool (partB s g)) ∧ Below w.heap.size w w' := by
  have htog := fun W => ctog_any s g W
  obtain ⟨on, k, p, o⟩ := s
  obtain ⟨T, hT⟩ : ∃ T, togB ⟨on, k, p, o⟩ g = T := ⟨_, rfl⟩
  obtain ⟨R, hR⟩ : ∃ R, partB ⟨on, k, p, o⟩ g = R := ⟨_, rfl⟩
  rw [hR]
  rw [hT] at htog
  unfold csV at htog ⊢
  dsimp only at htog ⊢
  unfold partB at hR
  rw [hT] at hR
  dsimp only at hR
  have hbel := Lib.hid (below_new w (.cells #[.bool on, .int .i64 k, .bool p, .bool o] 37))
  replace hR := Lib.hid hR
  replace htog := Lib.hid htog
  clear hT
  go_enter Tryz.func172, Tryz.ntmps172
  go_wp2_with first | (refine (htog.out _).mono ?_; rintro e w1 ⟨rfl, hb1⟩; replace hbel := Lib.hid (below_on hbel.out hb1); clear hb1) | fail
  all_goals
    go_ret
    refine ⟨ret_bool ?_, hbel.out⟩
    rw [← hR.out]
    first | (simp [*]; done) | (simp_all; done) | (simp_all; omega) | (simp at *; omega) | (rw [Bool.eq_iff_iff]; simp_all; done) | (rw [Bool.eq_iff_iff]; simp_all; omega)
def knownC (s : Clu.CS) : Clu.CS := if Clu.saneB s = true then s else Clu.zero
set_option maxHeartbeats 6400000 in
set_option maxRecDepth 100000 in
theorem cknown_any (s : Clu.CS) (w : World) : Calls Tryz.prog 170 #[csV s] w fun e w' => e = .returned (csV (knownC s)) ∧ Below w.heap.size w w' := by
  have hsane := fun W => csane_any s W
  obtain ⟨S, hS⟩ : ∃ S, Clu.saneB s = S := ⟨_, rfl⟩
  have hK : knownC s = if S = true then s else Clu.zero := by unfold knownC; rw [hS]
  rw [hS] at hsane
  obtain ⟨on, k, p, o⟩ := s
  unfold csV at hsane
  dsimp only at hsane
  have hb0 := blk_new w #[.bool on, .int .i64 k, .bool p, .bool o] 37
  have hb := blk_alloc hb0 (.cells #[.bool false, .int .i64 0, .bool false, .bool false] 37)
  have hres := blk_new (w.alloc (.cells #[.bool on, .int .i64 k, .bool p, .bool o] 37)) #[.bool false, .int .i64 0, .bool false, .bool false] 37
  rw [show (w.alloc (.cells #[.bool on, .int .i64 k, .bool p, .bool o] 37)).heap.size = w.heap.size + 1 by simp] at hres
  have hbel : Below w.heap.size w ((w.alloc (.cells #[.bool on, .int .i64 k, .bool p, .bool o] 37)).alloc (.cells #[.bool false, .int .i64 0, .bool false, .bool false] 37)) := (below_new w _).alloc (by simp) _
  replace hbel := Lib.hid hbel
  replace hres := Lib.hid hres
  replace hb := Lib.hid hb
  replace hK := Lib.hid hK
  replace hsane := Lib.hid hsane
  clear hb0 hS
  unfold csV
  dsimp only
  go_enter Tryz.func170, Tryz.ntmps170
  go_wp2_with fail
  refine (hsane.out _).mono ?_
  rintro e w1 ⟨rfl, hb1⟩
  have hbx1 := blk_below hb.out hb1
  have hrs1 := blk_below hres.out hb1
  have c0 := blk_cell hbx1 0 (.bool on) rfl
  have c1 := blk_cell hbx1 1 (.int .i64 k) rfl
  have c2 := blk_cell hbx1 2 (.bool p) rfl
  have c3 := blk_cell hbx1 3 (.bool o) rfl
  have f0 := blk_thaw hrs1 0
  have f1 := blk_thaw hrs1 1
  have f2 := blk_thaw hrs1 2
  have f3 := blk_thaw hrs1 3
  have d0 := blk_cell hrs1 0 (.bool false) rfl
  have d1 := blk_cell hrs1 1 (.int .i64 0) rfl
  have d2 := blk_cell hrs1 2 (.bool false) rfl
  have d3 := blk_cell hrs1 3 (.bool false) rfl
  replace hb1 := Lib.hid (below_on hbel.out hb1)
  replace hrs1 := Lib.hid hrs1
  clear hb hbel hres hbx1
  rcases S with _ | _
  all_goals
    go_wp2_with fail
    rw [hK.out]
    clear hK
    have q0 := fun x0 x1 x2 x3 => (set4_cell hrs1.out x0 x1 x2 x3).1
    have q1 := fun x0 x1 x2 x3 => (set4_cell hrs1.out x0 x1 x2 x3).2.1
    have q2 := fun x0 x1 x2 x3 => (set4_cell hrs1.out x0 x1 x2 x3).2.2.1
    have q3 := fun x0 x1 x2 x3 => (set4_cell hrs1.out x0 x1 x2 x3).2.2.2
    first
      | refine bodyPost_ret (v := .agg #[.bool on, .int .i64 k, .bool p, .bool o]) ?_ rfl ⟨rfl, below_set4 hb1.out (Nat.le_succ _) _ _ _ _⟩; simp [results, Tryz.results170, go_sem, q0, q1, q2, q3]; done
      | refine bodyPost_ret (v := .agg #[.bool false, .int .i64 0, .bool false, .bool false]) ?_ rfl ⟨rfl, below_set4 hb1.out (Nat.le_succ _) _ _ _ _⟩; simp [results, Tryz.results170, go_sem, q0, q1, q2, q3]; done
end Go.Proofs.YtiidjkhkcckmkaaGreatDoor

/- Layer 11: the code's Ends, Next. -/
namespace Go.Proofs.YtiidjkhkcckmkaaGreatDoor
set_option linter.unusedSimpArgs false
set_option linter.unusedVariables false
open Go.RowKit Go.Lib
theorem ends_known (s : Clu.CS) (r : Int) : Clu.endsI s r = if (knownC s).on = true then partB (knownC s) (Prp.gcbI r) else false := by
  unfold Clu.endsI
  rw [ends_part]
  unfold knownC
  cases h : Clu.saneB s
  · simp [Clu.zero]
  · cases h2 : s.on <;> simp [h2]
theorem beq_dec (x y : Int) : (x == y) = decide (x = y) := by rw [Bool.eq_iff_iff]; simp
theorem held4 {w w1 : World} {a0 a1 a2 a3 : Addr} {u0 u1 u2 u3 : Value} (hb : Below w.heap.size w w1) (h : w.cell? a0 = some u0 ∧ w.cell? a1 = some u1 ∧ w.cell? a2 = some u2 ∧ w.cell? a3 = some u3) :
    w1.cell? a0 = some u0 ∧ w1.cell? a1 = some u1 ∧ w1.cell? a2 = some u2 ∧ w1.cell? a3 = some u3 := by
  obtain ⟨h0, h1, h2, h3⟩ := h
  exact ⟨by rw [hb.cell (World.block_lt_of_cell? _ _ h0)]; exact h0, by rw [hb.cell (World.block_lt_of_cell? _ _ h1)]; exact h1, by rw [hb.cell (World.block_lt_of_cell? _ _ h2)]; exact h2, by rw [hb.cell (World.block_lt_of_cell? _ _ h3)]; exact h3⟩
set_option maxHeartbeats 6400000 in
set_option maxRecDepth 100000 in
theorem cends_any (s : Clu.CS) (r : Int) (w : World) : Calls Tryz.prog 141 #[csV s, .int .i64 r] w fun e w' => e = .returned (.bool (Clu.endsI s r)) ∧ Below w.heap.size w w' := by
  have hkn := fun W => cknown_any s W
  have hgcb := fun W => gcb_any r W
  have hpt := fun W => cpart_any (knownC s) (Prp.gcbI r) W
  rw [ends_known]
  obtain ⟨K, hK⟩ : ∃ K, knownC s = K := ⟨_, rfl⟩
  obtain ⟨g, hg⟩ : ∃ g, Prp.gcbI r = g := ⟨_, rfl⟩
  obtain ⟨PB, hPB⟩ : ∃ PB, partB K g = PB := ⟨_, rfl⟩
  rw [hK, hg, hPB] at hpt
  rw [hK] at hkn
  rw [hg] at hgcb
  rw [hK, hg, hPB]
  obtain ⟨on, k, p, o⟩ := s
  obtain ⟨n2, k2, p2, o2⟩ := K
  unfold csV at hkn hpt ⊢
  dsimp only at hkn hpt ⊢
  have hb := Lib.hid (blk_new w #[.bool on, .int .i64 k, .bool p, .bool o] 37)
  have hbel := Lib.hid (below_new w (.cells #[.bool on, .int .i64 k, .bool p, .bool o] 37))
  replace hkn := Lib.hid hkn
  replace hgcb := Lib.hid hgcb
  replace hpt := Lib.hid hpt
  clear hK hg hPB
  go_enter Tryz.func141, Tryz.ntmps141
  go_wp2_with fail
  
  refine (hkn.out _).mono ?_
  rintro e w1 ⟨rfl, hb1⟩
  have hbx1 := blk_below hb.out hb1
  have f0 := blk_thaw hbx1 0
  have f1 := blk_thaw hbx1 1
  have f2 := blk_thaw hbx1 2
  have f3 := blk_thaw hbx1 3
  have b0 := blk_cell hbx1 0 (.bool on) rfl
  have b1 := blk_cell hbx1 1 (.int .i64 k) rfl
  have b2 := blk_cell hbx1 2 (.bool p) rfl
  have b3 := blk_cell hbx1 3 (.bool o) rfl
  have x2 := Lib.hid (blk_set4 hbx1 (.bool n2) (.int .i64 k2) (.bool p2) (.bool o2))
  have hb2 := Lib.hid (below_set4 (below_on hbel.out hb1) (Nat.le_refl _) (.bool n2) (.int .i64 k2) (.bool p2) (.bool o2))
  replace hb1 := Lib.hid hb1
  replace hbx1 := Lib.hid hbx1
  clear hb hbel
  go_upto_region 2 with (fail)
  clear f0 f1 f2 f3 b0 b1 b2 b3
  rcases n2 with _ | _
  · have c0 := Lib.hid (blk_cell x2.out 0 (.bool false) rfl)
    refine wp_region_held_drew (S := fun w' => w'.cell? ⟨w.heap.size, 0, none⟩ = some (.bool false)) (by kernel_rfl) (c0.out) (fun hS => ?_)
    refine' wpAnyH_take (i := 0) (oi := ⟨_, _, _, _, _, _⟩) (v := _) rfl (by kernel_rfl) (by kernel_rfl) (by kernel_rfl) (fun _ _ _ h => h) (Or.inl ⟨by rfl, ?hya0⟩) hS ?resta0
    case hya0 => (intro wz hSw; (try dsimp only at hSw); go_simp; try with_reducible rfl)
    try simp only [Act.put, List.setIfInBounds_toArray, List.set_cons_zero, List.set_cons_succ]
    refine' wpAnyH_take (i := 1) (oi := ⟨_, _, _, _, _, _⟩) (v := _) rfl (by kernel_rfl) (by kernel_rfl) (by kernel_rfl) (fun _ _ _ h => h) (Or.inl ⟨by rfl, ?hya1⟩) hS ?resta1
    case hya1 => (intro wz hSw; (try dsimp only at hSw); go_simp; try with_reducible rfl)
    try simp only [Act.put, List.setIfInBounds_toArray, List.set_cons_zero, List.set_cons_succ]
    refine' wpAnyH_take (i := 2) (oi := ⟨_, _, _, _, _, _⟩) (v := _) rfl (by kernel_rfl) (by kernel_rfl) (by kernel_rfl) (fun _ _ _ h => h) (Or.inl ⟨by rfl, ?hya2⟩) hS ?resta2
    case hya2 => (intro wz hSw; (try dsimp only at hSw); go_simp; try with_reducible rfl)
    try simp only [Act.put, List.setIfInBounds_toArray, List.set_cons_zero, List.set_cons_succ]
    refine' wpAnyH_take (i := 3) (oi := ⟨_, _, _, _, _, _⟩) (v := undef) rfl (by kernel_rfl) (by kernel_rfl) (by kernel_rfl) (fun _ _ _ h => h) (Or.inr ⟨by rfl, rfl⟩) hS ?resta3
    try simp only [Act.put, List.setIfInBounds_toArray, List.set_cons_zero, List.set_cons_succ]
    refine' wpAnyH_take (i := 4) (oi := ⟨_, _, _, _, _, _⟩) (v := undef) rfl (by kernel_rfl) (by kernel_rfl) (by kernel_rfl) (fun _ _ _ h => h) (Or.inr ⟨by rfl, rfl⟩) hS ?resta4
    try simp only [Act.put, List.setIfInBounds_toArray, List.set_cons_zero, List.set_cons_succ]
    refine' wpAnyH_take (i := 5) (oi := ⟨_, _, _, _, _, _⟩) (v := undef) rfl (by kernel_rfl) (by kernel_rfl) (by kernel_rfl) (fun _ _ _ h => h) (Or.inr ⟨by rfl, rfl⟩) hS ?resta5
    try simp only [Act.put, List.setIfInBounds_toArray, List.set_cons_zero, List.set_cons_succ]
    refine' wpAnyH_take (i := 6) (oi := ⟨_, _, _, _, _, _⟩) (v := undef) rfl (by kernel_rfl) (by kernel_rfl) (by kernel_rfl) (fun _ _ _ h => h) (Or.inr ⟨by rfl, rfl⟩) hS ?resta6
    try simp only [Act.put, List.setIfInBounds_toArray, List.set_cons_zero, List.set_cons_succ]
    refine' wpAnyH_take (i := 7) (oi := ⟨_, _, _, _, _, _⟩) (v := _) rfl (by kernel_rfl) (by kernel_rfl) (by kernel_rfl) (fun _ _ _ h => h) (Or.inl ⟨by rfl, ?hya7⟩) hS ?resta7
    case hya7 => (intro wz hSw; (try dsimp only at hSw); go_simp; try with_reducible rfl)
    try simp only [Act.put, List.setIfInBounds_toArray, List.set_cons_zero, List.set_cons_succ]
    refine' wpAnyH_take (i := 8) (oi := ⟨_, _, _, _, _, _⟩) (v := _) rfl (by kernel_rfl) (by kernel_rfl) (by kernel_rfl) (fun _ _ _ h => h) (Or.inl ⟨by rfl, ?hya8⟩) hS ?resta8
    case hya8 => (intro wz hSw; (try dsimp only at hSw); go_simp; try with_reducible rfl)
    try simp only [Act.put, List.setIfInBounds_toArray, List.set_cons_zero, List.set_cons_succ]
    refine wpAnyH_done (by kernel_rfl) ?_ _
    clear hS c0
    go_simp
    go_wp2_with fail
    go_ret
    exact ⟨rfl, below_on hb2.out (Below.refl _ _).drew⟩
  · have c4 := Lib.hid (show _ ∧ _ ∧ _ ∧ _ from ⟨blk_cell x2.out 0 (.bool true) rfl, blk_cell x2.out 1 (.int .i64 k2) rfl, blk_cell x2.out 2 (.bool p2) rfl, blk_cell x2.out 3 (.bool o2) rfl⟩)
    refine wp_region_held_drew (S := fun w' => w'.cell? ⟨w.heap.size, 0, none⟩ = some (.bool true) ∧ w'.cell? ⟨w.heap.size, 1, none⟩ = some (.int .i64 k2) ∧ w'.cell? ⟨w.heap.size, 2, none⟩ = some (.bool p2) ∧ w'.cell? ⟨w.heap.size, 3, none⟩ = some (.bool o2)) (by kernel_rfl) (c4.out) (fun hS => ?_)
    refine' wpAnyH_take (i := 0) (oi := ⟨_, _, _, _, _, _⟩) (v := _) rfl (by kernel_rfl) (by kernel_rfl) (by kernel_rfl) (fun _ _ _ h => h) (Or.inl ⟨by rfl, ?hyb0⟩) hS ?restb0
    case hyb0 => (intro wz hSw; (try dsimp only at hSw); go_simp; try with_reducible rfl)
    try simp only [Act.put, List.setIfInBounds_toArray, List.set_cons_zero, List.set_cons_succ]
    refine' wpAnyH_take (i := 1) (oi := ⟨_, _, _, _, _, _⟩) (v := _) rfl (by kernel_rfl) (by kernel_rfl) (by kernel_rfl) (fun _ _ _ h => h) (Or.inl ⟨by rfl, ?hyb1⟩) hS ?restb1
    case hyb1 => (intro wz hSw; (try dsimp only at hSw); go_simp; try with_reducible rfl)
    try simp only [Act.put, List.setIfInBounds_toArray, List.set_cons_zero, List.set_cons_succ]
    refine' wpAnyH_take (i := 2) (oi := ⟨_, _, _, _, _, _⟩) (v := _) rfl (by kernel_rfl) (by kernel_rfl) (by kernel_rfl) (fun _ _ _ h => h) (Or.inl ⟨by rfl, ?hyb2⟩) hS ?restb2
    case hyb2 => (intro wz hSw; (try dsimp only at hSw); go_simp; try with_reducible rfl)
    try simp only [Act.put, List.setIfInBounds_toArray, List.set_cons_zero, List.set_cons_succ]
    refine' wpAnyH_take (i := 3) (oi := ⟨_, _, _, _, _, _⟩) (v := _) rfl (by kernel_rfl) (by kernel_rfl) (by kernel_rfl) (fun _ _ _ h => h) (Or.inl ⟨by rfl, ?hyb3⟩) hS ?restb3
    case hyb3 => (intro wz hSw; (try dsimp only at hSw); go_simp; try with_reducible rfl)
    try simp only [Act.put, List.setIfInBounds_toArray, List.set_cons_zero, List.set_cons_succ]
    refine' wpAnyH_take (i := 4) (oi := ⟨_, _, _, _, _, _⟩) (v := _) rfl (by kernel_rfl) (by kernel_rfl) (by kernel_rfl) (fun _ _ _ h => h) (Or.inl ⟨by rfl, ?hyb4⟩) hS ?restb4
    case hyb4 => (intro wz hSw; (try dsimp only at hSw); go_simp; try with_reducible rfl)
    try simp only [Act.put, List.setIfInBounds_toArray, List.set_cons_zero, List.set_cons_succ]
    refine wpAnyH_ready (rs := [5]) (by kernel_rfl) (by simp) (AllReadyH.cons rfl (fun K hK => ?_) AllReadyH.nil)
    go_simp
    go_at_call 171
    refine (hgcb.out _).mono ?_
    rintro e w3 ⟨rfl, hb3⟩
    go_wp2_with fail
    refine hK.out _ _ (held4 hb3 hS) (fun hSn => ?_)
    clear hS
    have hS := hSn
    clear hSn
    clear hK K
    try simp only [Act.put, List.setIfInBounds_toArray, List.set_cons_zero, List.set_cons_succ]
    have hb3' := Lib.hid (below_on hb2.out ((Below.refl _ _).drew.trans hb3))
    refine wpAnyH_ready (rs := [6]) (by kernel_rfl) (by simp) (AllReadyH.cons rfl (fun K hK => ?_) AllReadyH.nil)
    go_simp
    go_at_call 172
    refine (hpt.out _).mono ?_
    rintro e w4 ⟨rfl, hb4⟩
    go_wp2_with fail
    refine hK.out _ _ (held4 hb4 hS) (fun hSn => ?_)
    clear hS
    have hS := hSn
    clear hSn
    clear hK K
    try simp only [Act.put, List.setIfInBounds_toArray, List.set_cons_zero, List.set_cons_succ]
    have hb4' := Lib.hid (below_on hb3'.out hb4)
    refine' wpAnyH_take (i := 7) (oi := ⟨_, _, _, _, _, _⟩) (v := _) rfl (by kernel_rfl) (by kernel_rfl) (by kernel_rfl) (fun _ _ _ h => h) (Or.inl ⟨by rfl, ?hyb7⟩) hS ?restb7
    case hyb7 => (intro wz hSw; (try dsimp only at hSw); go_simp; try with_reducible rfl)
    try simp only [Act.put, List.setIfInBounds_toArray, List.set_cons_zero, List.set_cons_succ]
    refine' wpAnyH_take (i := 8) (oi := ⟨_, _, _, _, _, _⟩) (v := _) rfl (by kernel_rfl) (by kernel_rfl) (by kernel_rfl) (fun _ _ _ h => h) (Or.inl ⟨by rfl, ?hyb8⟩) hS ?restb8
    case hyb8 => (intro wz hSw; (try dsimp only at hSw); go_simp; try with_reducible rfl)
    try simp only [Act.put, List.setIfInBounds_toArray, List.set_cons_zero, List.set_cons_succ]
    refine wpAnyH_done (by kernel_rfl) ?_ _
    clear hS c4
    go_simp
    go_wp2_with fail
    go_ret
    exact ⟨rfl, hb4'.out⟩
set_option maxHeartbeats 6400000 in
set_option maxRecDepth 100000 in
theorem cnext_any (s : Clu.CS) (r : Int) (w : World) : Calls Tryz.prog 140 #[csV s, .int .i64 r] w fun e w' => e = .returned (csV (Clu.nextI s r)) ∧ Below w.heap.size w w' := by
  have hkn := fun W => cknown_any s W
  have hgcb := fun W => gcb_any r W
  obtain ⟨R, hR⟩ : ∃ R, Clu.nextI s r = R := ⟨_, rfl⟩
  rw [hR]
  unfold Clu.nextI Clu.nextK at hR
  rw [show (if Clu.saneB s = true then s else Clu.zero) = knownC s from rfl] at hR
  obtain ⟨K, hK⟩ : ∃ K, knownC s = K := ⟨_, rfl⟩
  obtain ⟨g, hg⟩ : ∃ g, Prp.gcbI r = g := ⟨_, rfl⟩
  rw [hK] at hkn hR
  rw [hg] at hgcb hR
  obtain ⟨on, k, p, o⟩ := s
  obtain ⟨n2, k2, p2, o2⟩ := K
  unfold csV at hkn ⊢
  dsimp only at hkn hR ⊢
  have hb0 := blk_new w #[.bool on, .int .i64 k, .bool p, .bool o] 37
  have hb := Lib.hid (blk_alloc hb0 (.cells #[.bool false, .int .i64 0, .bool false, .bool false] 37))
  have hres := blk_new (w.alloc (.cells #[.bool on, .int .i64 k, .bool p, .bool o] 37)) #[.bool false, .int .i64 0, .bool false, .bool false] 37
  rw [show (w.alloc (.cells #[.bool on, .int .i64 k, .bool p, .bool o] 37)).heap.size = w.heap.size + 1 by simp] at hres
  have hbel : Below w.heap.size w ((w.alloc (.cells #[.bool on, .int .i64 k, .bool p, .bool o] 37)).alloc (.cells #[.bool false, .int .i64 0, .bool false, .bool false] 37)) := (below_new w _).alloc (by simp) _
  replace hbel := Lib.hid hbel
  replace hres := Lib.hid hres
  replace hkn := Lib.hid hkn
  replace hgcb := Lib.hid hgcb
  replace hR := Lib.hid hR
  clear hK hg hb0
  go_enter Tryz.func140, Tryz.ntmps140
  go_wp2_with fail
  
  refine (hkn.out _).mono ?_
  rintro e w1 ⟨rfl, hb1⟩
  have hbx1 := blk_below hb.out hb1
  have f0 := blk_thaw hbx1 0
  have f1 := blk_thaw hbx1 1
  have f2 := blk_thaw hbx1 2
  have f3 := blk_thaw hbx1 3
  have b0 := blk_cell hbx1 0 (.bool on) rfl
  have b1 := blk_cell hbx1 1 (.int .i64 k) rfl
  have b2 := blk_cell hbx1 2 (.bool p) rfl
  have b3 := blk_cell hbx1 3 (.bool o) rfl
  have x2 := Lib.hid (blk_set4 hbx1 (.bool n2) (.int .i64 k2) (.bool p2) (.bool o2))
  have hb2 := Lib.hid (below_set4 (below_on hbel.out hb1) (Nat.le_refl _) (.bool n2) (.int .i64 k2) (.bool p2) (.bool o2))
  have r2 := Lib.hid (blk_other4 (j := w.heap.size) (blk_below hres.out hb1) (.bool n2) (.int .i64 k2) (.bool p2) (.bool o2) (by omega))
  replace hb1 := Lib.hid hb1
  replace hbx1 := Lib.hid hbx1
  clear hb hbel hres
  go_wp2_with fail
  clear f0 f1 f2 f3 b0 b1 b2 b3
  refine (hgcb.out _).mono ?_
  rintro e w3 ⟨rfl, hb3⟩
  have hbx3 := blk_below x2.out hb3
  have hrs3 := blk_below r2.out hb3
  have f0 := blk_thaw hrs3 0
  have f1 := blk_thaw hrs3 1
  have f2 := blk_thaw hrs3 2
  have f3 := blk_thaw hrs3 3
  have d0 := blk_cell hrs3 0 (.bool false) rfl
  have d1 := blk_cell hrs3 1 (.int .i64 0) rfl
  have d2 := blk_cell hrs3 2 (.bool false) rfl
  have d3 := blk_cell hrs3 3 (.bool false) rfl
  have c0 := blk_cell hbx3 0 (.bool n2) rfl
  have c1 := blk_cell hbx3 1 (.int .i64 k2) rfl
  have c2 := blk_cell hbx3 2 (.bool p2) rfl
  have c3 := blk_cell hbx3 3 (.bool o2) rfl
  replace hb3 := Lib.hid (below_on hb2.out hb3)
  clear hb1 hbx1 x2 r2 hb2 hbx3
  replace hrs3 := Lib.hid hrs3
  go_wp2_with fail
  all_goals
    refine bodyPost_ret (v := .agg #[.bool R.on, .int .i64 R.kind, .bool R.pict, .bool R.odd]) ?_ rfl ⟨rfl, below_set4 hb3.out (Nat.le_succ _) _ _ _ _⟩
    have q0 := fun x0 x1 x2 x3 => (set4_cell hrs3.out x0 x1 x2 x3).1
    have q1 := fun x0 x1 x2 x3 => (set4_cell hrs3.out x0 x1 x2 x3).2.1
    have q2 := fun x0 x1 x2 x3 => (set4_cell hrs3.out x0 x1 x2 x3).2.2.1
    have q3 := fun x0 x1 x2 x3 => (set4_cell hrs3.out x0 x1 x2 x3).2.2.2
    rw [← hR.out]
    clear hR hb3 hrs3 c0 c1 c2 c3 d0 d1 d2 d3 f0 f1 f2 f3 hgcb hkn
    simp [results, Tryz.results140, go_sem, q0, q1, q2, q3]
    clear q0 q1 q2 q3
    all_goals first | (simp [*]; done) | (simp_all; done) | (simp_all; omega) | (simp_all [Clu.zero]; done) | (simp_all [Clu.zero]; omega) | (simp only [beq_dec, bne] at *; simp_all; done) | (simp only [beq_dec, bne] at *; simp_all; omega) | (simp_all [beq_dec, bne]; done) | (simp_all [beq_dec, bne]; omega) | (trace_state; sorry)
end Go.Proofs.YtiidjkhkcckmkaaGreatDoor

