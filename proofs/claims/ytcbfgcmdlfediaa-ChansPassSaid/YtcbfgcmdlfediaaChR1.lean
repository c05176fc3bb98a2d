/- Layer 16: the document's Sane, Few, As. -/
import Derived.Test.YtcbfgcmdlfediaaChS
import Derived.Deep.LoopGhost
import Derived.Deep.DeepCutAuto
namespace Go.Proofs.Ytcbfgcmdlfediaa
set_option linter.unusedSimpArgs false
set_option linter.unusedVariables false
open Go.RowKit Go.Lib
open Stg (Ch)
theorem blk_setAt16 {w : World} {k : Nat} {cs : Array Value} {T : TypeId} (h : Blk w k cs T) (i : Nat) (u : Value) : Blk (w.setCell ⟨k, i, none⟩ u) k (cs.setIfInBounds i u) T := by
  have := heap_setCell_same w k i cs T u h
  unfold Blk
  simpa using this
theorem saneC_bad {c : Ch} (k : Nat) (h : k < c.L.length) (hb : Stg.okB c.L[k] = false) : Stg.saneC c = false := by
  unfold Stg.saneC
  rw [Bool.and_eq_false_iff]
  right
  rw [List.all_eq_false]
  exact ⟨c.L[k], List.getElem_mem h, by unfold Stg.okB at hb; rw [hb]; simp⟩
theorem saneC_good {c : Ch} (h : ∀ k (h : k < c.L.length), k < c.L.length → Stg.okB c.L[k] = true) : Stg.saneC c = decide (c.L.length ≤ 2) := by
  unfold Stg.saneC
  rw [show (c.L.all fun b => decide (1 ≤ b.length) && decide (b.length ≤ 8)) = true from List.all_eq_true.2 fun b hb => by
    obtain ⟨k, hk, rfl⟩ := List.getElem_of_mem hb
    exact h k hk hk]
  simp
set_option maxHeartbeats 3200000 in
set_option maxRecDepth 100000 in
theorem rsane16 (J : Nat → Prop) (v : Value) (c : Ch) (w : World) (hf : c.Few) (hv : RCh J w v c) : Calls Try.prog 19 #[v] w fun e w' => e = .returned (.bool (Stg.saneC c)) ∧ Below w.heap.size w w' := by
  obtain ⟨p, cap, rfl, hr⟩ := rch_form hv
  have hbad := @saneC_bad c
  have hgood := @saneC_good c
  obtain ⟨hn, hlen⟩ := hf
  obtain ⟨E, hE⟩ : ∃ E, Stg.saneC c = E := ⟨_, rfl⟩
  rw [hE] at hbad hgood ⊢
  obtain ⟨L, cl⟩ := c
  dsimp only at *
  have hr1 := rro_but hr (only_below (below_new w (.cells #[.slice p L.length cap, .bool cl] 24)))
  have hbx := blk_new w #[.slice p L.length cap, .bool cl] 24
  have hc0 := blk_cell hbx 0 _ rfl
  have hbel := Lib.hid (below_new w (.cells #[.slice p L.length cap, .bool cl] 24))
  obtain ⟨W, hW⟩ : ∃ W, w.alloc (.cells #[.slice p L.length cap, .bool cl] 24) = W := ⟨_, rfl⟩
  replace hr1 := Lib.hid hr1
  replace hbad := Lib.hid hbad
  replace hgood := Lib.hid hgood
  replace hlen := Lib.hid hlen
  clear hE hr hv hbx
  replace hc0 := Lib.hid hc0
  rw [hW] at hr1 hc0 hbel
  replace hW := Lib.hid hW
  go_enter Try.func19, Try.ntmps19
  go_wp2_with fail
  rw [hW.out]
  go_loopg [3] L.length (fun g vi wr => ∃ k : Nat, k ≤ L.length ∧ vi = .int .i64 k ∧ g = L.length - k ∧ wr = W ∧ ∀ j (h : j < L.length), j < k → Stg.okB L[j] = true)
  case atStart => exact ⟨0, Nat.zero_le _, rfl, rfl, rfl, fun j h hj => by omega⟩
  case round =>
    obtain ⟨k, hk, rfl, rfl, rfl, hok⟩ := hrel
    replace hc0 := hc0.out
    by_cases hlt : k < L.length
    · have hlt' : (k : Int) < (L.length : Int) := by omega
      obtain ⟨b, off, rfl, hb, hJ, hcell⟩ := rro_at hr1.out (by omega)
      obtain ⟨u, hu, hru⟩ := hcell k hlt
      obtain ⟨pk, ck, rfl⟩ := ri_form hru.1
      have hlk := hlen.out L[k] (List.getElem_mem hlt)
      have hbk := hbad.out k hlt
      have hokk : Stg.okB L[k] = true ↔ 1 ≤ L[k].length ∧ L[k].length ≤ 8 := Stg.okB_iff _
      have hnext : Stg.okB L[k] = true → ∀ j (h : j < L.length), j < k + 1 → Stg.okB L[j] = true := fun h0 j h hj => by
        by_cases e : j = k
        · subst e; exact h0
        · exact hok j h (by omega)
      obtain ⟨m, hm⟩ : ∃ m, L[k].length = m := ⟨_, rfl⟩
      rw [hm] at hu hlk hokk
      replace hnext := Lib.hid hnext
      replace hok := Lib.hid hok
      clear hcell hru hm
      by_cases h1 : 1 ≤ m
      · by_cases h2 : m ≤ 8
        · have n1 : ¬ m < 1 := by omega
          have n2 : ¬ 8 < m := by omega
          have n3 : ¬ (m : Int) < 1 := by omega
          have n4 : ¬ (8 : Int) < (m : Int) := by omega
          have hyes := Lib.hid (hokk.2 ⟨h1, h2⟩)
          replace hokk := Lib.hid hokk
          replace hbk := Lib.hid hbk
          clear h1 h2
          go_wp2_with fail
          go_roundg (L.length - (k + 1))
          case measure => omega
          case rel => exact ⟨k + 1, by omega, by go_num, rfl, rfl, hnext.out hyes.out⟩
        · have n1 : ¬ m < 1 := by omega
          have n2 : 8 < m := by omega
          have n3 : ¬ (m : Int) < 1 := by omega
          have n4 : (8 : Int) < (m : Int) := by omega
          have hno := Lib.hid (hbk (by rw [← Bool.not_eq_true]; exact fun h => h2 (hokk.1 h).2))
          replace hokk := Lib.hid hokk
          clear h1 h2 hbk
          go_wp2_with fail
          go_ret
          exact ⟨ret_bool hno.out.symm, hbel.out⟩
      · have n1 : m < 1 := by omega
        have n3 : (m : Int) < 1 := by omega
        have hno := Lib.hid (hbk (by rw [← Bool.not_eq_true]; exact fun h => h1 (hokk.1 h).1))
        replace hokk := Lib.hid hokk
        clear h1 hbk
        go_wp2_with fail
        go_ret
        exact ⟨ret_bool hno.out.symm, hbel.out⟩
    · obtain rfl : k = L.length := by omega
      have hlt' : decide ((L.length : Int) < (L.length : Int)) = false := by simp
      have hres := Lib.hid (hgood.out fun k h _ => hok k h h)
      replace hok := Lib.hid hok
      obtain ⟨D, hD⟩ : ∃ D, decide (L.length ≤ 2) = D := ⟨_, rfl⟩
      have hD2 : decide ((L.length : Int) ≤ 2) = D := by rw [← hD]; exact decide_eq_decide.2 (by omega)
      rw [hD] at hres
      go_wp2_with fail
      go_ret
      exact ⟨ret_bool hres.out.symm, hbel.out⟩
theorem ras16 (J : Nat → Prop) (v : Value) (c : Ch) (w : World) (hf : c.Few) (hv : RCh J w v c) : Calls Try.prog 31 #[v] w (ToldC J (Stg.asC c) w) := by
  have hs := fun W (h : RCh J W v c) => rsane16 J v c W hf h
  obtain ⟨p, cap, rfl, hr⟩ := rch_form hv
  obtain ⟨S, hS⟩ : ∃ S, Stg.saneC c = S := ⟨_, rfl⟩
  have hA : Stg.asC c = if S = true then c else ⟨[], false⟩ := by unfold Stg.asC; rw [hS]
  rw [hS] at hs
  have hb0 := blk_new w #[.slice p c.L.length cap, .bool c.closed] 24
  have hb := blk_alloc hb0 (.cells #[.slice none 0 0, .bool false] 24)
  have hres := blk_new (w.alloc (.cells #[.slice p c.L.length cap, .bool c.closed] 24)) #[.slice none 0 0, .bool false] 24
  rw [show (w.alloc (.cells #[.slice p c.L.length cap, .bool c.closed] 24)).heap.size = w.heap.size + 1 by simp] at hres
  have hbel : Below w.heap.size w ((w.alloc (.cells #[.slice p c.L.length cap, .bool c.closed] 24)).alloc (.cells #[.slice none 0 0, .bool false] 24)) := (below_new w _).alloc (by simp) _
  have hcall := Lib.hid (hs _ (rch_below hv hbel))
  have hv1 := Lib.hid (fun W h => rch_below (w1 := W) hv h)
  replace hbel := Lib.hid hbel
  replace hres := Lib.hid hres
  replace hb := Lib.hid hb
  replace hA := Lib.hid hA
  replace hv := Lib.hid hv
  clear hb0 hS hs hr
  obtain ⟨cl, hcl⟩ : ∃ cl, c.closed = cl := ⟨_, rfl⟩
  obtain ⟨n, hn⟩ : ∃ n, c.L.length = n := ⟨_, rfl⟩
  rw [hcl, hn] at hb hres hbel hcall hv1 ⊢
  clear hcl hn hv
  go_enter Try.func31, Try.ntmps31
  go_wp2_with fail
  refine hcall.out.mono ?_
  rintro e w1 ⟨rfl, hb1⟩
  have hbx1 := blk_below hb.out hb1
  have hrs1 := blk_below hres.out hb1
  have c0 := blk_cell hbx1 0 (.slice p n cap) rfl
  have c1 := blk_cell hbx1 1 (.bool cl) rfl
  have f0 := blk_thaw hrs1 0
  have f1 := blk_thaw hrs1 1
  have d0 := blk_cell hrs1 0 (.slice none 0 0) rfl
  have d1 := blk_cell hrs1 1 (.bool false) rfl
  replace hb1 := Lib.hid (below_on hbel.out hb1)
  replace hrs1 := Lib.hid hrs1
  clear hb hbel hres hbx1 hcall
  rcases S with _ | _
  · go_wp2_with fail
    refine bodyPost_ret (v := .agg #[.slice none 0 0, .bool false]) ?_ rfl ?_
    · have q := blk_setAt16 (blk_setAt16 hrs1.out 0 (.slice none 0 0)) 1 (.bool false)
      have q0 := blk_cell q 0 (.slice none 0 0) rfl
      have q1 := blk_cell q 1 (.bool false) rfl
      simp [results, Try.results31, go_sem, q0, q1]
    · refine ⟨_, rfl, ?_, (hb1.out.setCell (p := ⟨_, 0, none⟩) (Nat.le_succ _) _).setCell (p := ⟨_, 1, none⟩) (Nat.le_succ _) _⟩
      rw [hA.out]
      exact rch_zero _ _
  · go_wp2_with fail
    refine bodyPost_ret (v := .agg #[.slice p n cap, .bool cl]) ?_ rfl ?_
    · have q := blk_setAt16 (blk_setAt16 hrs1.out 0 (.slice p n cap)) 1 (.bool cl)
      have q0 := blk_cell q 0 (.slice p n cap) rfl
      have q1 := blk_cell q 1 (.bool cl) rfl
      simp [results, Try.results31, go_sem, q0, q1]
    · have hB := (hb1.out.setCell (p := ⟨_, 0, none⟩) (Nat.le_succ _) (.slice p n cap)).setCell (p := ⟨_, 1, none⟩) (Nat.le_succ _) (.bool cl)
      refine ⟨_, rfl, ?_, hB⟩
      rw [hA.out]
      exact hv1.out _ hB
end Go.Proofs.Ytcbfgcmdlfediaa
