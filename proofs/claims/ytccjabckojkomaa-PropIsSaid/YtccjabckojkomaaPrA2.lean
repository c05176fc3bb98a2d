/- Layer 3: a table that was just made; Ccc and Mark. -/
import Derived.Test.YtccjabckojkomaaPrA1
namespace Go.Proofs.Ytccjabckojkomaa
open Go.RowKit Go.Lib

def flat (T : List Prp.Row) : List Value := T.flatMap fun s => [.int .i64 s.1, .int .i64 s.2.1, .int .i64 s.2.2]

theorem flat_at (T : List Prp.Row) (k : Nat) (hk : k < T.length) : (flat T)[k * 3]? = some (.int .i64 T[k].1) ∧ (flat T)[k * 3 + 1]? = some (.int .i64 T[k].2.1) ∧ (flat T)[k * 3 + 2]? = some (.int .i64 T[k].2.2) := by
  induction T generalizing k with
  | nil => simp at hk
  | cons s t ih =>
    cases k with
    | zero => exact ⟨rfl, rfl, rfl⟩
    | succ k =>
      have h := ih k (by simpa using hk)
      have e : flat (s :: t) = .int .i64 s.1 :: .int .i64 s.2.1 :: .int .i64 s.2.2 :: flat t := rfl
      rw [e]
      rw [show (k + 1) * 3 = k * 3 + 3 by omega]
      exact ⟨h.1, h.2.1, h.2.2⟩

theorem rows_new (w : World) (cs : Array Value) (t : TypeId) (T : List Prp.Row) (h : cs.toList = flat T) : RowsAt (w.alloc (.cells cs t)) w.heap.size T := by
  refine ⟨by simp, fun k hk => ?_⟩
  obtain ⟨h0, h1, h2⟩ := flat_at T k hk
  rw [← h] at h0 h1 h2
  simp only [Array.getElem?_toList] at h0 h1 h2
  refine ⟨?_, ?_, ?_⟩
  · simpa using h0
  · simpa using h1
  · simpa using h2

/-- one operation whose run is known -/
theorem wp_ok {P : Program} {o : Oper} {a : Act} {w w' : World} {K : Act → World → Prop} {Q : Exit → Act → World → Prop} {v : Value} (h : (execOp a.eval o).run P w = .ok (.value v) w') (k : K (a.put o.dst v) w') : o.wp P a w K Q := by
  unfold Oper.wp
  rw [h]
  exact k

set_option maxRecDepth 100000 in
set_option maxHeartbeats 1600000 in
theorem ccc_any (r : Int) (w : World) :
    Calls Try.prog 9 #[.int .i64 r] w fun e w' => e = .returned (.int .i64 (Prp.cccI r)) ∧ Below w.heap.size w w' := by
  unfold Prp.cccI
  go_enter Try.func9, Try.ntmps9
  go_wp2_with fail
  refine (find_any Prp.classes Prp.sorted_classes (by decide) _ r _ (rows_new w _ _ Prp.classes rfl) 42 rfl).mono ?_
  rintro e w1 ⟨a, b, rfl, hb1⟩
  have hbel := Lib.hid (below_in hb1)
  clear hb1
  go_wp2_with fail
  go_ret
  exact ⟨rfl, hbel.out.trans ((below_new w1 _).mono hbel.out.size)⟩

theorem mark_any (r : Int) (w : World) :
    Calls Try.prog 15 #[.int .i64 r] w fun e w' => e = .returned (.bool (Prp.mrkB r)) ∧ Below w.heap.size w w' := by
  unfold Prp.mrkB
  go_enter Try.func15, Try.ntmps15
  go_wp2_with fail
  refine (ccc_any r _).mono ?_
  rintro e w1 ⟨rfl, hb1⟩
  replace hb1 := Lib.hid hb1
  go_wp2_with fail
  go_ret
  exact ⟨rfl, hb1.out⟩
end Go.Proofs.Ytccjabckojkomaa
