/- Layer 12: the statements' helper ours; the document's example. -/
import Derived.Test.YtbkgjbpnogcjeaaSgS
namespace Go.Proofs.Ytbkgjbpnogcjeaa
set_option linter.unusedSimpArgs false
set_option linter.unusedVariables false
open Go.RowKit Go.Lib

set_option maxHeartbeats 1600000 in
set_option maxRecDepth 100000 in
theorem ours12_any (p : Option Addr) (n c : Nat) (s : Clu.CS) (w : World) : Calls Try.prog 11 #[sgV (.slice p n c) s] w fun e w' => e = .returned (sgV (.slice p n c) s) ∧ Below w.heap.size w w' := by
  obtain ⟨on, k, q, o⟩ := s
  unfold sgV
  dsimp only
  go_enter Try.func11, Try.ntmps11
  go_wp2_with fail
  refine bodyPost_ret (v := .agg #[.slice p n c, .bool on, .int .i64 k, .bool q, .bool o]) ?_ rfl ⟨rfl, (below_new w _).alloc (by simp) _⟩
  simp [results, Try.results11, go_sem]

set_option maxHeartbeats 1600000 in
set_option maxRecDepth 100000 in
theorem awake12 (hS : SaneC12) (hA : AllC12) (w : World) :
    Calls Try.prog 9 #[] w fun e w' => e = .returned (.bool true) ∧ Below w.heap.size w w' := by
  have h1 := Lib.hid (fun V W h => all_of12 hA (v := V) (l := [101, 769, 102]) (m := [[101, 769], [102]]) (w := W) (by decide +kernel) (by simp) h)
  have h2 : ∀ W, Calls Try.prog 13 #[.agg #[.slice none 0 0, .bool false, .int .i64 0, .bool false, .bool false]] W fun e w' => e = .returned (.bool true) ∧ Below W.heap.size W w' := fun W => hS (.slice none 0 0) [] Clu.zero W (by simp) (ri_nil W)
  replace h2 := Lib.hid h2
  clear hS hA
  have l0 := Lib.hid (ri_of_own (ownI_lit w.heap.size w [101, 769, 102] #[.int .i64 101, .int .i64 769, .int .i64 102] w.heap.size 3 rfl (Nat.le_refl _) rfl rfl (by unfold maxLen; omega)))
  have b0 := Lib.hid (below_new w (.cells #[.int .i64 101, .int .i64 769, .int .i64 102] 3))
  go_enter Try.func9, Try.ntmps9
  go_wp2_with fail
  refine (h1.out _ _ l0.out).mono ?_
  rintro e w1 ⟨v, rfl, hv, q1⟩
  obtain ⟨p, cap, rfl⟩ := rr_form hv
  obtain ⟨b, off, rfl, hlt, hc⟩ := rr_at hv (by simp)
  obtain ⟨u0, c0, r0⟩ := hc 0 (by simp)
  obtain ⟨u1, c1, r1⟩ := hc 1 (by simp)
  replace r0 : RI w1 u0 [101, 769] := r0
  replace r1 : RI w1 u1 [102] := r1
  obtain ⟨p0, k0, rfl⟩ := ri_form r0
  obtain ⟨p1, k1, rfl⟩ := ri_form r1
  obtain ⟨b1, o1, rfl, _, hc1⟩ := ri_at r1 (by simp)
  have x1 : w1.cell? ⟨b1, o1, none⟩ = some (.int .i64 102) := hc1 0 (by simp)
  have bq := Lib.hid (below_on b0.out q1)
  rw [Nat.add_zero] at c0
  clear q1 l0 b0 hc hc1 hv r0 r1
  go_wp2_with fail
  refine (h2.out _).mono ?_
  rintro e w2 ⟨rfl, q2⟩
  replace bq := Lib.hid (below_on bq.out q2)
  clear c0 c1 x1 q2
  go_wp2_with fail
  go_ret
  exact ⟨rfl, bq.out⟩

end Go.Proofs.Ytbkgjbpnogcjeaa
