/- Layer 6: the walk of CasingLetters. -/
import Derived.Test.YtapmgakndndbkaaCaW0
import Derived.Test.YtapmgakndndbkaaK4
namespace Go.Proofs.Ytapmgakndndbkaa
open Go.RowKit Go.Lib

theorem letters_of (k : Nat) (hk : k < 84) : if Cas.cap k = 0xD7 ∨ Cas.cap k = 0x3A2 then Cas.foldI (Cas.cap k) = [Cas.cap k] else (Cas.foldI (Cas.cap k) = [Cas.cap k + 32] ∧ Cas.foldI (Cas.cap k + 32) = [Cas.cap k + 32]) := Cas.letters_all ⟨k, hk⟩

set_option maxHeartbeats 3200000 in
theorem casingLetters_walk (n : Int) (w : World) (hn : -9223372036854775808 ≤ n ∧ n ≤ 9223372036854775807) :
    Calls Try.prog 6 #[.int .i64 n] w fun e w' => e = .returned (.bool true) ∧ Below w.heap.size w w' := by
  obtain ⟨k, hk, hlt⟩ : ∃ k : Nat, n % 65536 % 84 = k ∧ k < 84 := ⟨(n % 65536 % 84).toNat, by omega, by omega⟩
  have hand : (bits .and .i64 n 65535).tmod 84 = (k : Int) := by rw [and65535, Int.tmod_eq_emod_of_nonneg (by omega)]; exact hk
  have hcap := letters_of k hlt
  clear hk hn
  obtain ⟨x, hx⟩ : ∃ x, Cas.cap k = x := ⟨_, rfl⟩
  rw [hx] at hcap
  unfold Cas.cap at hx
  have h3 : (∃ b1 b2 : Bool, decide ((26 : Int) ≤ (k : Int)) = b1 ∧ decide ((57 : Int) ≤ (k : Int)) = b2) := ⟨_, _, rfl, rfl⟩
  have hcase : (decide ((26 : Int) ≤ (k : Int)) = false ∧ decide ((57 : Int) ≤ (k : Int)) = false ∧ wrap64 (65 + (k : Int)) = x) ∨ (decide ((26 : Int) ≤ (k : Int)) = true ∧ decide ((57 : Int) ≤ (k : Int)) = false ∧ wrap64 (wrap64 (192 + (k : Int)) - 26) = x) ∨ (decide ((26 : Int) ≤ (k : Int)) = true ∧ decide ((57 : Int) ≤ (k : Int)) = true ∧ wrap64 (wrap64 (913 + (k : Int)) - 57) = x) := by
    by_cases h1 : 57 ≤ k
    · rw [if_pos h1] at hx
      exact .inr (.inr ⟨decide_eq_true (by omega), decide_eq_true (by omega), by unfold wrap64; omega⟩)
    · rw [if_neg h1] at hx
      by_cases h2 : 26 ≤ k
      · rw [if_pos h2] at hx
        exact .inr (.inl ⟨decide_eq_true (by omega), decide_eq_false (by omega), by unfold wrap64; omega⟩)
      · rw [if_neg h2] at hx
        exact .inl ⟨decide_eq_false (by omega), decide_eq_false (by omega), by unfold wrap64; omega⟩
  have hxb : 0 ≤ x ∧ x < 2000 := by split at hx <;> (try split at hx) <;> omega
  clear h3 hx hlt
  have hkind : ((x == 215) = true ∧ x = 215 ∧ Cas.foldI x = [x]) ∨ ((x == 215) = false ∧ (x == 930) = true ∧ x = 930 ∧ Cas.foldI x = [x]) ∨ ((x == 215) = false ∧ (x == 930) = false ∧ Cas.foldI x = [x + 32] ∧ Cas.foldI (x + 32) = [x + 32]) := by
    by_cases h1 : x = 215
    · rw [if_pos (.inl h1)] at hcap
      exact .inl ⟨by simpa using h1, h1, hcap⟩
    · by_cases h2 : x = 930
      · rw [if_pos (.inr h2)] at hcap
        exact .inr (.inl ⟨by simpa using h1, by simpa using h2, h2, hcap⟩)
      · rw [if_neg (by omega)] at hcap
        exact .inr (.inr ⟨by simpa using h1, by simpa using h2, hcap⟩)
  clear hcap
  rcases hkind with ⟨e1, rfl, hf⟩ | ⟨e1, e2, rfl, hf⟩ | ⟨e1, e2, hf, hf2⟩
  · replace hf := Lib.hid (fun W => fold_of 215 [215] hf (by omega) W)
    rcases hcase with ⟨h1, h2, h3⟩ | ⟨h1, h2, h3⟩ | ⟨h1, h2, h3⟩
    all_goals
      go_enter Try.func6, Try.ntmps6
      go_wp2_with fail
      refine (awake6 w).mono ?_
      rintro e w1 ⟨rfl, hb1⟩
      replace hb1 := Lib.hid hb1
      go_wp2_with fail
      refine (hf.out _).mono ?_
      rintro e w2 ⟨v, rfl, o2, hb2⟩
      replace hb2 := Lib.hid (below_on hb1.out hb2)
      obtain ⟨b, cap, rfl, hB, hl2, hcell⟩ := ownI_open o2 (by simp)
      have c0 := hcell 0 (by simp)
      replace c0 : w2.cell? ⟨b, 0, none⟩ = some (.int .i64 215) := c0
      clear hcell o2
      go_wp2_with fail
      go_ret
      exact ⟨rfl, hb2.out⟩
  · replace hf := Lib.hid (fun W => fold_of 930 [930] hf (by omega) W)
    rcases hcase with ⟨h1, h2, h3⟩ | ⟨h1, h2, h3⟩ | ⟨h1, h2, h3⟩
    all_goals
      go_enter Try.func6, Try.ntmps6
      go_wp2_with fail
      refine (awake6 w).mono ?_
      rintro e w1 ⟨rfl, hb1⟩
      replace hb1 := Lib.hid hb1
      go_wp2_with fail
      refine (hf.out _).mono ?_
      rintro e w2 ⟨v, rfl, o2, hb2⟩
      replace hb2 := Lib.hid (below_on hb1.out hb2)
      obtain ⟨b, cap, rfl, hB, hl2, hcell⟩ := ownI_open o2 (by simp)
      have c0 := hcell 0 (by simp)
      replace c0 : w2.cell? ⟨b, 0, none⟩ = some (.int .i64 930) := c0
      clear hcell o2
      go_wp2_with fail
      go_ret
      exact ⟨rfl, hb2.out⟩
  · have hw : wrap64 (x + 32) = x + 32 := by unfold wrap64; omega
    replace hf := Lib.hid (fun W => fold_of x [x + 32] hf (by omega) W)
    replace hf2 := Lib.hid (fun W => fold_of (x + 32) [x + 32] hf2 (by omega) W)
    rcases hcase with ⟨h1, h2, h3⟩ | ⟨h1, h2, h3⟩ | ⟨h1, h2, h3⟩
    all_goals
      go_enter Try.func6, Try.ntmps6
      go_wp2_with fail
      refine (awake6 w).mono ?_
      rintro e w1 ⟨rfl, hb1⟩
      replace hb1 := Lib.hid hb1
      go_wp2_with fail
      refine (hf.out _).mono ?_
      rintro e w2 ⟨v, rfl, o2, hb2⟩
      replace hb2 := Lib.hid (below_on hb1.out hb2)
      obtain ⟨b, cap, rfl, hB, hl2, hcell⟩ := ownI_open o2 (by simp)
      have c0 := hcell 0 (by simp)
      replace c0 := Lib.hid (show w2.cell? ⟨b, 0, none⟩ = some (.int .i64 (x + 32)) from c0)
      clear hcell o2
      go_wp2_with fail
      refine (hf2.out _).mono ?_
      rintro e w3 ⟨v, rfl, o3, hb3⟩
      replace c0 : w3.cell? ⟨b, 0, none⟩ = some (.int .i64 (x + 32)) := (hb3.cell hl2).trans c0.out
      replace hb3 := Lib.hid (below_on hb2.out hb3)
      obtain ⟨b3, cap3, rfl, hB3, hl3, hcell⟩ := ownI_open o3 (by simp)
      have d0 := hcell 0 (by simp)
      replace d0 : w3.cell? ⟨b3, 0, none⟩ = some (.int .i64 (x + 32)) := d0
      clear hcell o3
      go_wp2_with fail
      go_ret
      exact ⟨rfl, hb3.out⟩

end Go.Proofs.Ytapmgakndndbkaa
