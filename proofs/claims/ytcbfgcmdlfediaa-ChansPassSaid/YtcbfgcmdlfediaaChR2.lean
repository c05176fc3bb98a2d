/- Layer 16: the document's Few, Count, Spent, Close. -/
import Derived.Test.YtcbfgcmdlfediaaChR1
namespace Go.Proofs.Ytcbfgcmdlfediaa
set_option linter.unusedSimpArgs false
set_option linter.unusedVariables false
open Go.RowKit Go.Lib
open Stg (Ch)
def fewC (c : Ch) : Bool := decide (c.L.length ≤ 6) && c.L.all fun b => decide (b.length ≤ 20)
theorem fewC_few {c : Ch} (h : fewC c = true) : c.Few ∧ c.L.length ≤ 6 ∧ ∀ b ∈ c.L, b.length ≤ 20 := by
  unfold fewC at h
  simp only [Bool.and_eq_true, decide_eq_true_eq, List.all_eq_true] at h
  exact ⟨⟨by omega, fun b hb => by have := h.2 b hb; omega⟩, h⟩
theorem fewC_bad {c : Ch} (k : Nat) (h : k < c.L.length) (hb : 20 < (c.L[k]).length) : fewC c = false := by
  unfold fewC
  rw [Bool.and_eq_false_iff]
  right
  rw [List.all_eq_false]
  exact ⟨c.L[k], List.getElem_mem h, by simp; omega⟩
theorem fewC_good {c : Ch} (h : ∀ k (h : k < c.L.length), k < c.L.length → (c.L[k]).length ≤ 20) : fewC c = decide (c.L.length ≤ 6) := by
  unfold fewC
  rw [show (c.L.all fun b => decide (b.length ≤ 20)) = true from List.all_eq_true.2 fun b hb => by
    obtain ⟨k, hk, rfl⟩ := List.getElem_of_mem hb
    have := h k hk hk
    simpa using this]
  simp
set_option maxHeartbeats 3200000 in
set_option maxRecDepth 100000 in
theorem rfew16 (J : Nat → Prop) (v : Value) (c : Ch) (w : World) (hv : RCh J w v c) (hmax : c.L.length ≤ maxLen) : Calls Try.prog 10 #[v] w fun e w' => e = .returned (.bool (fewC c)) ∧ Below w.heap.size w w' := by
  obtain ⟨p, cap, rfl, hr⟩ := rch_form hv
  have hbad := @fewC_bad c
  have hgood := @fewC_good c
  unfold maxLen at hmax
  obtain ⟨E, hE⟩ : ∃ E, fewC c = E := ⟨_, rfl⟩
  rw [hE] at hbad hgood ⊢
  obtain ⟨L, cl⟩ := c
  dsimp only at *
  have hr1 := rro_but hr (only_below (below_new w (.cells #[.slice p L.length cap, .bool cl] 24)))
  have hbx := blk_new w #[.slice p L.length cap, .bool cl] 24
  have hc0 := blk_cell hbx 0 _ rfl
  have hbel := Lib.hid (below_new w (.cells #[.slice p L.length cap, .bool cl] 24))
  obtain ⟨W, hW⟩ : ∃ W, w.alloc (.cells #[.slice p L.length cap, .bool cl] 24) = W := ⟨_, rfl⟩
  replace hr1 := Lib.hid hr1
  replace hbad := Lib.hid hbad
  replace hgood := Lib.hid hgood
  clear hE hr hv hbx
  replace hc0 := Lib.hid hc0
  rw [hW] at hr1 hc0 hbel
  replace hW := Lib.hid hW
  go_enter Try.func10, Try.ntmps10
  go_wp2_with fail
  rw [hW.out]
  go_loopg [3] L.length (fun g vi wr => ∃ k : Nat, k ≤ L.length ∧ vi = .int .i64 k ∧ g = L.length - k ∧ wr = W ∧ ∀ j (h : j < L.length), j < k → (L[j]).length ≤ 20)
  case atStart => exact ⟨0, Nat.zero_le _, rfl, rfl, rfl, fun j h hj => by omega⟩
  case round =>
    obtain ⟨k, hk, rfl, rfl, rfl, hok⟩ := hrel
    replace hc0 := hc0.out
    by_cases hlt : k < L.length
    · have hlt' : (k : Int) < (L.length : Int) := by omega
      obtain ⟨b, off, rfl, hb, hJ, hcell⟩ := rro_at hr1.out (by omega)
      obtain ⟨u, hu, hru⟩ := hcell k hlt
      obtain ⟨pk, ck, rfl⟩ := ri_form hru.1
      have hbk := hbad.out k hlt
      have hnext : (L[k]).length ≤ 20 → ∀ j (h : j < L.length), j < k + 1 → (L[j]).length ≤ 20 := fun h0 j h hj => by
        by_cases e : j = k
        · subst e; exact h0
        · exact hok j h (by omega)
      obtain ⟨m, hm⟩ : ∃ m, L[k].length = m := ⟨_, rfl⟩
      rw [hm] at hu hbk hnext
      replace hnext := Lib.hid hnext
      replace hok := Lib.hid hok
      clear hcell hru hm
      by_cases h2 : m ≤ 20
      · have n2 : ¬ 20 < m := by omega
        have n4 : ¬ (20 : Int) < (m : Int) := by omega
        replace hbk := Lib.hid hbk
        go_wp2_with fail
        go_roundg (L.length - (k + 1))
        case measure => omega
        case rel => exact ⟨k + 1, by omega, by go_num, rfl, rfl, hnext.out h2⟩
      · have n2 : 20 < m := by omega
        have n4 : (20 : Int) < (m : Int) := by omega
        have hno := Lib.hid (hbk n2)
        clear h2 hbk
        go_wp2_with fail
        go_ret
        exact ⟨ret_bool hno.out.symm, hbel.out⟩
    · obtain rfl : k = L.length := by omega
      have hlt' : decide ((L.length : Int) < (L.length : Int)) = false := by simp
      have hres := Lib.hid (hgood.out fun k h _ => hok k h h)
      replace hok := Lib.hid hok
      obtain ⟨D, hD⟩ : ∃ D, decide (L.length ≤ 6) = D := ⟨_, rfl⟩
      have hD2 : decide ((L.length : Int) ≤ 6) = D := by rw [← hD]; exact decide_eq_decide.2 (by omega)
      rw [hD] at hres
      go_wp2_with fail
      go_ret
      exact ⟨ret_bool hres.out.symm, hbel.out⟩
/-- a call of As; what it tells lies in a new box -/
theorem ras_box {J : Nat → Prop} {v : Value} {c : Ch} {w : World} (hf : c.Few) (hv : RCh J w v c) :
    Calls Try.prog 31 #[v] w fun e w' => ∃ p cap, e = .returned (.agg #[.slice p (Stg.asC c).L.length cap, .bool (Stg.asC c).closed]) ∧ RRo J w' (.slice p (Stg.asC c).L.length cap) (Stg.asC c).L ∧ Below w.heap.size w w' :=
  (ras16 J v c w hf hv).mono fun e w' ⟨v', he, hr, hb⟩ => by
    obtain ⟨p, cap, rfl, hr2⟩ := rch_form hr
    exact ⟨p, cap, he, hr2, hb⟩
set_option maxHeartbeats 3200000 in
set_option maxRecDepth 100000 in
theorem rspent16 (J : Nat → Prop) (v : Value) (c : Ch) (w : World) (hf : c.Few) (hv : RCh J w v c) : Calls Try.prog 23 #[v] w fun e w' => e = .returned (.bool (Stg.spentC c)) ∧ Below w.heap.size w w' := by
  unfold Stg.spentC
  
  have has := fun W (h : RCh (Up J w) W v c) => ras_box hf h
  replace hv := rch_up hv
  obtain ⟨p, cap, rfl, hr0⟩ := rch_form hv
  obtain ⟨d, hd⟩ : ∃ d, Stg.asC c = d := ⟨_, rfl⟩
  have hsn := Stg.asC_sane c
  rw [hd] at has hsn ⊢
  have hsn2 := (Stg.saneC_iff d).1 hsn
  
  have hbel0 := below_new w (.cells #[.slice p c.L.length cap, .bool c.closed] 24)
  have hcall := Lib.hid (has _ (rch_below hv hbel0))
  replace hbel0 := Lib.hid hbel0
  obtain ⟨cl, hcl⟩ : ∃ cl, c.closed = cl := ⟨_, rfl⟩
  obtain ⟨n, hn⟩ : ∃ n, c.L.length = n := ⟨_, rfl⟩
  rw [hcl, hn] at hbel0 hcall ⊢
  clear hcl hn hv has hr0 hd hsn
  obtain ⟨L, dc⟩ := d
  dsimp only at hcall hsn2 ⊢
  obtain ⟨hs1, hs2⟩ := hsn2
  replace hs2 := Lib.hid hs2
  go_enter Try.func23, Try.ntmps23
  go_wp2_with fail
  refine hcall.out.mono ?_
  rintro e w1 ⟨pd, cd, rfl, hr1, hb1⟩
  replace hb1 := Lib.hid (below_on hbel0.out hb1)
  have hbel := Lib.hid (hb1.out.alloc hb1.out.size (.cells #[.slice pd L.length cd, .bool dc] 24))
  clear hbel0 hcall
  rcases dc with _ | _
  · go_wp2_with fail
    go_ret
    exact ⟨ret_bool (by simp), hbel.out⟩
  · by_cases h0 : L = []
    · subst h0
      go_wp2_with fail
      go_ret
      exact ⟨ret_bool (by simp), hbel.out⟩
    · have n0 : ¬ L.length = 0 := by simpa using h0
      have n1 : ((L.length : Int) == 0) = false := by simpa using n0
      go_wp2_with fail
      go_ret
      exact ⟨ret_bool (by simp [h0]), hbel.out⟩
set_option maxHeartbeats 3200000 in
set_option maxRecDepth 100000 in
theorem rclose16 (J : Nat → Prop) (v : Value) (c : Ch) (w : World) (hf : c.Few) (hv : RCh J w v c) : Calls Try.prog 21 #[v] w (ToldC J (Stg.closeC c) w) := by
  unfold Stg.closeC
  
  have has := fun W (h : RCh (Up J w) W v c) => ras_box hf h
  replace hv := rch_up hv
  obtain ⟨p, cap, rfl, hr0⟩ := rch_form hv
  obtain ⟨d, hd⟩ : ∃ d, Stg.asC c = d := ⟨_, rfl⟩
  have hsn := Stg.asC_sane c
  rw [hd] at has hsn ⊢
  have hsn2 := (Stg.saneC_iff d).1 hsn
  have hbel0 : Below w.heap.size w ((w.alloc (.cells #[.slice p c.L.length cap, .bool c.closed] 24)).alloc (.cells #[.slice none 0 0, .bool false] 24)) := (below_new w _).alloc (by simp) _
  have hres := blk_new (w.alloc (.cells #[.slice p c.L.length cap, .bool c.closed] 24)) #[.slice none 0 0, .bool false] 24
  rw [show (w.alloc (.cells #[.slice p c.L.length cap, .bool c.closed] 24)).heap.size = w.heap.size + 1 by simp] at hres
  have hcall := Lib.hid (has _ (rch_below hv hbel0))
  replace hbel0 := Lib.hid hbel0
  replace hres := Lib.hid hres
  obtain ⟨cl, hcl⟩ : ∃ cl, c.closed = cl := ⟨_, rfl⟩
  obtain ⟨n, hn⟩ : ∃ n, c.L.length = n := ⟨_, rfl⟩
  rw [hcl, hn] at hbel0 hcall hres ⊢
  clear hcl hn hv has hr0 hd hsn
  obtain ⟨L, dc⟩ := d
  dsimp only at hcall hsn2 ⊢
  obtain ⟨hs1, hs2⟩ := hsn2
  replace hs2 := Lib.hid hs2
  have hfd : ∀ (p1 : Option Addr) (n1 c1 : Nat) (b1 : Bool) (W : World), (Instr.field 24 (.agg #[.slice p1 n1 c1, .bool b1]) 0).run Try.prog W = .ok (.slice p1 n1 c1) W := fun _ _ _ _ _ => by kernel_rfl
  go_enter Try.func21, Try.ntmps21
  go_wp2_with fail
  refine hcall.out.mono ?_
  rintro e w1 ⟨pd, cd, rfl, hr1, hb1⟩
  have hrs1 := blk_below hres.out hb1
  have f0 := blk_thaw hrs1 0
  have f1 := blk_thaw hrs1 1
  have d0 := blk_cell hrs1 0 (.slice none 0 0) rfl
  have d1 := blk_cell hrs1 1 (.bool false) rfl
  have hlt := blk_lt (blk_below hres.out hb1)
  replace hb1 := Lib.hid (below_on hbel0.out hb1)
  replace hrs1 := Lib.hid hrs1
  replace hr1 := Lib.hid hr1
  clear hbel0 hcall hres
  go_wp2_with fail
  refine bodyPost_ret (v := .agg #[.slice pd L.length cd, .bool true]) ?_ rfl ?_
  · have q := blk_setAt16 (blk_setAt16 hrs1.out 0 (.slice pd L.length cd)) 1 (.bool true)
    have q0 := blk_cell q 0 (.slice pd L.length cd) rfl
    have q1 := blk_cell q 1 (.bool true) rfl
    simp [results, Try.results21, go_sem, q0, q1]
  · have hB := (hb1.out.setCell (p := ⟨_, 0, none⟩) (Nat.le_succ _) (.slice pd L.length cd)).setCell (p := ⟨_, 1, none⟩) (Nat.le_succ _) (.bool true)
    exact ⟨_, rfl, ⟨_, rfl, rro_down (rro_but (rro_but hr1.out (only_set _ ⟨w.heap.size + 1, 0, none⟩ _ (.inr (Nat.le_succ _)))) (only_set _ ⟨w.heap.size + 1, 1, none⟩ _ (.inr (Nat.le_succ _))))⟩, hB⟩
end Go.Proofs.Ytcbfgcmdlfediaa
