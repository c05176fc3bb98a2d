/- Layer 11: the statements' helpers ours and theirs; the document's example. -/
import Derived.Test.YtodckdlanlgkeaaClS
namespace Go.Proofs.Ytodckdlanlgkeaa
set_option linter.unusedSimpArgs false
set_option linter.unusedVariables false
open Go.RowKit Go.Lib

set_option maxHeartbeats 1600000 in
set_option maxRecDepth 100000 in
theorem ours_any (s : Clu.CS) (w : World) : Calls Try.prog 11 #[csV s] w fun e w' => e = .returned (csV s) ∧ Below w.heap.size w w' := by
  obtain ⟨on, k, p, o⟩ := s
  unfold csV
  dsimp only
  go_enter Try.func11, Try.ntmps11
  go_wp2_with fail
  refine bodyPost_ret (v := .agg #[.bool on, .int .i64 k, .bool p, .bool o]) ?_ rfl ⟨rfl, (below_new w _).alloc (by simp) _⟩
  simp [results, Try.results11, go_sem]

set_option maxHeartbeats 1600000 in
set_option maxRecDepth 100000 in
theorem theirs_any (s : Clu.CS) (w : World) : Calls Try.prog 15 #[csV s] w fun e w' => e = .returned (csV s) ∧ Below w.heap.size w w' := by
  obtain ⟨on, k, p, o⟩ := s
  unfold csV
  dsimp only
  go_enter Try.func15, Try.ntmps15
  go_wp2_with fail
  refine bodyPost_ret (v := .agg #[.bool on, .int .i64 k, .bool p, .bool o]) ?_ rfl ⟨rfl, (below_new w _).alloc (by simp) _⟩
  simp [results, Try.results15, go_sem]

set_option maxHeartbeats 1600000 in
set_option maxRecDepth 100000 in
theorem awake11 (hS : SaneC11) (hE : EndsC11) (hN : NextC11) (hC : CutsC11) (w : World) :
    Calls Try.prog 9 #[] w fun e w' => e = .returned (.bool true) ∧ Below w.heap.size w w' := by
  have h1 := Lib.hid (fun V W h => cuts_of11 hC (v := V) (l := [101, 769, 102]) (m := [false, false, true]) (w := W) (by decide +kernel) (by simp) h)
  have h2 : ∀ W, Calls Try.prog 16 #[.agg #[.bool false, .int .i64 0, .bool false, .bool false], .int .i64 101] W fun e w' => e = .returned (.agg #[.bool true, .int .i64 0, .bool false, .bool false]) ∧ Below W.heap.size W w' := fun W => by
    have h := hN Clu.zero 101 W
    rw [show Clu.nextI Clu.zero 101 = ⟨true, 0, false, false⟩ by decide +kernel] at h
    exact h
  have h3 : ∀ W, Calls Try.prog 10 #[.agg #[.bool true, .int .i64 0, .bool false, .bool false]] W fun e w' => e = .returned (.bool true) ∧ Below W.heap.size W w' := fun W => hS ⟨true, 0, false, false⟩ W
  have h4 : ∀ W, Calls Try.prog 13 #[.agg #[.bool true, .int .i64 0, .bool false, .bool false], .int .i64 102] W fun e w' => e = .returned (.bool true) ∧ Below W.heap.size W w' := fun W => by
    have h := hE ⟨true, 0, false, false⟩ 102 W
    rw [show Clu.endsI ⟨true, 0, false, false⟩ 102 = true by decide +kernel] at h
    exact h
  replace h2 := Lib.hid h2
  replace h3 := Lib.hid h3
  replace h4 := Lib.hid h4
  clear hS hE hN hC
  have l0 := Lib.hid (ri_of_own (ownI_lit w.heap.size w [101, 769, 102] #[.int .i64 101, .int .i64 769, .int .i64 102] w.heap.size 3 rfl (Nat.le_refl _) rfl rfl (by unfold maxLen; omega)))
  have b0 := Lib.hid (below_new w (.cells #[.int .i64 101, .int .i64 769, .int .i64 102] 3))
  go_enter Try.func9, Try.ntmps9
  go_wp2_with fail
  refine (h1.out _ _ l0.out).mono ?_
  rintro e w1 ⟨v, rfl, hv, q1⟩
  obtain ⟨p, cap, rfl⟩ := rt_form hv
  replace b0 := Lib.hid (below_on b0.out q1)
  replace hv := Lib.hid hv
  clear q1 l0
  go_wp2_with fail
  refine (h2.out _).mono ?_
  rintro e w2 ⟨rfl, q2⟩
  replace hv := rt_below hv.out q2
  replace b0 := below_on b0.out q2
  have nb := below_new w2 (.cells #[.bool true, .int .i64 0, .bool false, .bool false] 27)
  have hbx := Lib.hid (blk_new w2 #[.bool true, .int .i64 0, .bool false, .bool false] 27)
  replace hv := rt_below hv nb
  replace b0 := Lib.hid (b0.alloc b0.size (.cells #[.bool true, .int .i64 0, .bool false, .bool false] 27))
  obtain ⟨b, off, rfl, hlt, hc⟩ := rt_at hv (by simp)
  have c0 : (w2.alloc (.cells #[.bool true, .int .i64 0, .bool false, .bool false] 27)).cell? ⟨b, off, none⟩ = some (.bool false) := hc 0 (by simp)
  have c1 : (w2.alloc (.cells #[.bool true, .int .i64 0, .bool false, .bool false] 27)).cell? ⟨b, off + 1, none⟩ = some (.bool false) := hc 1 (by simp)
  have c2 : (w2.alloc (.cells #[.bool true, .int .i64 0, .bool false, .bool false] 27)).cell? ⟨b, off + 2, none⟩ = some (.bool true) := hc 2 (by simp)
  have x0 := blk_cell hbx.out 0 _ rfl
  have x1 := blk_cell hbx.out 1 _ rfl
  have x2 := blk_cell hbx.out 2 _ rfl
  have x3 := blk_cell hbx.out 3 _ rfl
  clear hc hv nb q2
  go_wp2_with fail
  refine (h3.out _).mono ?_
  rintro e w3 ⟨rfl, q3⟩
  clear c0 c1 c2 x0 x1 x2 x3
  have hby := blk_below hbx.out q3
  have x0 := blk_cell hby 0 _ rfl
  have x1 := blk_cell hby 1 _ rfl
  have x2 := blk_cell hby 2 _ rfl
  have x3 := blk_cell hby 3 _ rfl
  replace b0 := Lib.hid (below_on b0.out q3)
  clear hby q3
  go_wp2_with fail
  refine (h4.out _).mono ?_
  rintro e w4 ⟨rfl, q4⟩
  replace b0 := Lib.hid (below_on b0.out q4)
  clear x0 x1 x2 x3 q4
  go_wp2_with fail
  go_ret
  exact ⟨rfl, b0.out⟩

end Go.Proofs.Ytodckdlanlgkeaa
