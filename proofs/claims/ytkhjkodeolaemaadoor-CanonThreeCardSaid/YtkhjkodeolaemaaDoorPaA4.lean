/- Layer 5: Join. -/
import Derived.Test.YtkhjkodeolaemaaDoorPaA3
namespace Go.Proofs.YtkhjkodeolaemaaDoor
set_option linter.unusedSimpArgs false
set_option linter.unusedVariables false
open Go.RowKit Go.Lib

theorem within_any (r f l : Int) (w : World) :
    Calls Tryd.prog 37 #[.int .i64 r, .int .i64 f, .int .i64 l] w fun e w' => e = .returned (.bool (decide (f ≤ r) && decide (r ≤ l))) ∧ w = w' := by
  by_cases h1 : f ≤ r
  · by_cases h2 : r ≤ l
    · go_enter Tryd.func37, Tryd.ntmps37
      go_wp2_with fail
      go_ret
      exact ⟨by simp [h1, h2], rfl⟩
    · have h2' : decide (r ≤ l) = false := decide_eq_false h2
      go_enter Tryd.func37, Tryd.ntmps37
      go_wp2_with fail
      go_ret
      exact ⟨by simp, rfl⟩
  · have h1' : decide (f ≤ r) = false := decide_eq_false h1
    go_enter Tryd.func37, Tryd.ntmps37
    go_wp2_with fail
    go_ret
    exact ⟨by simp, rfl⟩

def openB (r : Int) : Bool := decide (44032 ≤ r) && decide (r ≤ 55203) && decide ((r - 44032) % 28 = 0)

theorem open_any (r : Int) (w : World) :
    Calls Tryd.prog 38 #[.int .i64 r] w fun e w' => e = .returned (.bool (openB r)) ∧ w = w' := by
  have hw := within_any r 44032 55203
  unfold openB
  by_cases h1 : 44032 ≤ r ∧ r ≤ 55203
  · obtain ⟨h1a, h1b⟩ := h1
    rw [show (decide (44032 ≤ r) && decide (r ≤ 55203)) = true by simp [h1a, h1b]] at hw ⊢
    replace hw := Lib.hid hw
    obtain ⟨s, hs⟩ : ∃ s, r - 44032 = s := ⟨_, rfl⟩
    have hs0 : 0 ≤ s := by omega
    have hs1 : s < 11172 := by omega
    replace hs := Lib.hid hs
    have hr : r - 44032 = s := hs.out
    by_cases h28 : s % 28 = 0
    · rw [hr]
      go_enter Tryd.func38, Tryd.ntmps38
      go_wp2_with fail
      refine (hw.out _).mono ?_
      rintro e w1 ⟨rfl, rfl⟩
      go_wp2_with fail
      go_ret
      exact ⟨by simp [h28], rfl⟩
    · have h28' : (s % 28 == 0) = false := beq_eq_false_iff_ne.2 h28
      rw [hr]
      go_enter Tryd.func38, Tryd.ntmps38
      go_wp2_with fail
      refine (hw.out _).mono ?_
      rintro e w1 ⟨rfl, rfl⟩
      go_wp2_with fail
      go_ret
      exact ⟨by simp [h28], rfl⟩
  · rw [show (decide (44032 ≤ r) && decide (r ≤ 55203)) = false by simp; omega] at hw ⊢
    replace hw := Lib.hid hw
    clear h1
    go_enter Tryd.func38, Tryd.ntmps38
    go_wp2_with fail
    refine (hw.out _).mono ?_
    rintro e w1 ⟨rfl, rfl⟩
    go_wp2_with fail
    go_ret
    exact ⟨by simp, rfl⟩

/-- Join -/
def JoinRes (o : Option Int) (w : World) (e : Ending) (w' : World) : Prop := e = .returned (optI o) ∧ Below w.heap.size w w'

set_option maxHeartbeats 3200000 in
theorem join_any (a b : Int) (w : World) :
    Calls Tryd.prog 23 #[.int .i64 a, .int .i64 b] w (JoinRes (Par.joinI a b) w) := by
  have ha := within_any a 4352 4370
  have hb := within_any b 4449 4469
  have ho := open_any a
  have ht := within_any b 4520 4546
  have hf := pfind_is a b
  by_cases h1 : 4352 ≤ a ∧ a ≤ 4370
  · rw [show (decide (4352 ≤ a) && decide (a ≤ 4370)) = true by simp [h1]] at ha
    have hno : ¬ Par.LVT a b := by unfold Par.LVT; omega
    have hop : openB a = false := by unfold openB; simp; omega
    rw [hop] at ho
    by_cases h2 : 4449 ≤ b ∧ b ≤ 4469
    · rw [show (decide (4449 ≤ b) && decide (b ≤ 4469)) = true by simp [h2]] at hb
      have hres : Par.joinI a b = some (44032 + ((a - 4352) * 21 + b - 4449) * 28) := by
        unfold Par.joinI
        rw [if_pos (show Par.LV a b by unfold Par.LV; omega)]
        congr 1
        omega
      rw [hres]
      obtain ⟨h1a, h1b⟩ := h1
      obtain ⟨h2a, h2b⟩ := h2
      replace ha := Lib.hid ha
      replace hb := Lib.hid hb
      clear ho ht hf hres hno hop
      go_enter Tryd.func23, Tryd.ntmps23
      go_wp2_with fail
      refine (ha.out _).mono ?_
      rintro e w1 ⟨rfl, rfl⟩
      go_wp2_with fail
      refine (hb.out _).mono ?_
      rintro e w1 ⟨rfl, rfl⟩
      go_wp2_with fail
      go_ret2
      exact ⟨rfl, Below.refl _ _⟩
    · rw [show (decide (4449 ≤ b) && decide (b ≤ 4469)) = false by simp; omega] at hb
      have hres : Par.joinI a b = Par.lookJ Par.T a b := by
        unfold Par.joinI
        rw [if_neg (show ¬ Par.LV a b by unfold Par.LV; omega), if_neg hno]
      rw [hres]
      obtain ⟨o, hoo⟩ : ∃ o, Par.lookJ Par.T a b = o := ⟨_, rfl⟩
      rw [hoo] at hf ⊢
      replace ha := Lib.hid ha
      replace hb := Lib.hid hb
      replace ho := Lib.hid ho
      replace hf := Lib.hid hf
      clear ht hres hno hop hoo h1 h2
      cases o
      all_goals
        go_enter Tryd.func23, Tryd.ntmps23
        go_wp2_with fail
        refine (ha.out _).mono ?_
        rintro e w1 ⟨rfl, rfl⟩
        go_wp2_with fail
        refine (hb.out _).mono ?_
        rintro e w1 ⟨rfl, rfl⟩
        go_wp2_with fail
        refine (ho.out _).mono ?_
        rintro e w1 ⟨rfl, rfl⟩
        go_wp2_with fail
        refine (hf.out _).mono ?_
        rintro e w1 ⟨rfl, hb1⟩
        replace hb1 := Lib.hid hb1
        unfold optI
        dsimp only
        go_wp2_with fail
        go_ret2
        exact ⟨rfl, hb1.out⟩
  · rw [show (decide (4352 ≤ a) && decide (a ≤ 4370)) = false by simp; omega] at ha
    have hlv : ¬ Par.LV a b := by unfold Par.LV; omega
    by_cases hop : openB a = true
    · rw [hop] at ho
      by_cases h2 : 4520 ≤ b ∧ b ≤ 4546
      · rw [show (decide (4520 ≤ b) && decide (b ≤ 4546)) = true by simp [h2]] at ht
        unfold openB at hop
        simp only [Bool.and_eq_true, decide_eq_true_eq] at hop
        have hres : Par.joinI a b = some (a + b - 4519) := by
          unfold Par.joinI
          rw [if_neg hlv, if_pos (show Par.LVT a b by unfold Par.LVT; omega)]
        rw [hres]
        obtain ⟨⟨h1a, h1b⟩, _⟩ := hop
        obtain ⟨h2a, h2b⟩ := h2
        replace ha := Lib.hid ha
        replace ho := Lib.hid ho
        replace ht := Lib.hid ht
        clear hb hf hres hlv h1
        go_enter Tryd.func23, Tryd.ntmps23
        go_wp2_with fail
        refine (ha.out _).mono ?_
        rintro e w1 ⟨rfl, rfl⟩
        go_wp2_with fail
        refine (ho.out _).mono ?_
        rintro e w1 ⟨rfl, rfl⟩
        go_wp2_with fail
        refine (ht.out _).mono ?_
        rintro e w1 ⟨rfl, rfl⟩
        go_wp2_with fail
        go_ret2
        exact ⟨rfl, Below.refl _ _⟩
      · rw [show (decide (4520 ≤ b) && decide (b ≤ 4546)) = false by simp; omega] at ht
        have hres : Par.joinI a b = Par.lookJ Par.T a b := by
          unfold Par.joinI
          rw [if_neg hlv, if_neg (show ¬ Par.LVT a b by unfold Par.LVT; omega)]
        rw [hres]
        obtain ⟨o, hoo⟩ : ∃ o, Par.lookJ Par.T a b = o := ⟨_, rfl⟩
        rw [hoo] at hf ⊢
        replace ha := Lib.hid ha
        replace ho := Lib.hid ho
        replace ht := Lib.hid ht
        replace hf := Lib.hid hf
        clear hb hres hlv hop hoo h1 h2
        cases o
        all_goals
          go_enter Tryd.func23, Tryd.ntmps23
          go_wp2_with fail
          refine (ha.out _).mono ?_
          rintro e w1 ⟨rfl, rfl⟩
          go_wp2_with fail
          refine (ho.out _).mono ?_
          rintro e w1 ⟨rfl, rfl⟩
          go_wp2_with fail
          refine (ht.out _).mono ?_
          rintro e w1 ⟨rfl, rfl⟩
          go_wp2_with fail
          refine (hf.out _).mono ?_
          rintro e w1 ⟨rfl, hb1⟩
          replace hb1 := Lib.hid hb1
          unfold optI
          dsimp only
          go_wp2_with fail
          go_ret2
          exact ⟨rfl, hb1.out⟩
    · have hop' : openB a = false := by simpa using hop
      rw [hop'] at ho
      have hres : Par.joinI a b = Par.lookJ Par.T a b := by
        unfold Par.joinI
        rw [if_neg hlv, if_neg (show ¬ Par.LVT a b by
          unfold Par.LVT
          unfold openB at hop
          simp only [Bool.and_eq_true, decide_eq_true_eq] at hop
          omega)]
      rw [hres]
      obtain ⟨o, hoo⟩ : ∃ o, Par.lookJ Par.T a b = o := ⟨_, rfl⟩
      rw [hoo] at hf ⊢
      replace ha := Lib.hid ha
      replace ho := Lib.hid ho
      replace hf := Lib.hid hf
      clear hb ht hres hlv hop hop' hoo h1
      cases o
      all_goals
        go_enter Tryd.func23, Tryd.ntmps23
        go_wp2_with fail
        refine (ha.out _).mono ?_
        rintro e w1 ⟨rfl, rfl⟩
        go_wp2_with fail
        refine (ho.out _).mono ?_
        rintro e w1 ⟨rfl, rfl⟩
        go_wp2_with fail
        refine (hf.out _).mono ?_
        rintro e w1 ⟨rfl, hb1⟩
        replace hb1 := Lib.hid hb1
        unfold optI
        dsimp only
        go_wp2_with fail
        go_ret2
        exact ⟨rfl, hb1.out⟩

end Go.Proofs.YtkhjkodeolaemaaDoor
