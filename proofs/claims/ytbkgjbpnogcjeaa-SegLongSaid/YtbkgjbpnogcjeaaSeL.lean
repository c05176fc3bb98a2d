/- Layer 12, plain mathematics: a letter with marks behind it, and again: how long the clusters are. -/
import Derived.Test.YtbkgjbpnogcjeaaSeM
namespace Go.Proofs.Ytbkgjbpnogcjeaa.Sgm
set_option linter.unusedSimpArgs false
set_option linter.unusedVariables false
open Clu
open Prp (gcbI)

theorem sizes_len (n : Nat) : ∀ c, 1 ≤ c → c ≤ 32 → (sizes n c).length = (n + c + 31) / 32 := by
  induction n with
  | zero => intro c h1 h2; simp [sizes]; omega
  | succ n ih =>
    intro c h1 h2
    unfold sizes
    split
    · rw [List.length_cons, ih 1 (by omega) (by omega)]; omega
    · rw [ih (c + 1) (by omega) (by omega)]; omega

theorem sizes_at (n : Nat) : ∀ c i, 1 ≤ c → c ≤ 32 → ∀ h : i < (sizes n c).length, (sizes n c)[i] = if i + 1 = (sizes n c).length then n + c - 32 * i else 32 := by
  induction n with
  | zero =>
    intro c i h1 h2 h
    simp only [sizes, List.length_singleton] at h
    obtain rfl : i = 0 := by omega
    simp [sizes]
  | succ n ih =>
    intro c i h1 h2 h
    by_cases hc : c = 32
    · have e : sizes (n + 1) c = 32 :: sizes n 1 := by rw [sizes, if_pos hc]
      have hl := sizes_len n 1 (by omega) (by omega)
      simp only [e] at h ⊢
      cases i with
      | zero =>
        rw [if_neg (by rw [List.length_cons]; omega)]
        rfl
      | succ i =>
        rw [List.length_cons] at h
        rw [List.getElem_cons_succ, ih 1 i (by omega) (by omega) (by omega), List.length_cons]
        split
        · rw [if_pos (by omega)]; omega
        · rw [if_neg (by omega)]
    · have e : sizes (n + 1) c = sizes n (c + 1) := by rw [sizes, if_neg hc]
      simp only [e] at h ⊢
      rw [ih (c + 1) i (by omega) (by omega) h]
      split <;> omega

theorem ends_letter {s : CS} {x : Int} (hs : Clu.saneB s = true) (ho : s.on = true) (hk : s.kind = 0 ∨ s.kind = 4) (hx : gcbI x = 0) : endsI s x = true := by
  unfold endsI endsK
  rw [hx, if_neg (by rw [hs, ho]; simp), if_neg (by omega), if_neg (by omega)]
  unfold staysB
  rcases hk with h | h <;> simp [h]

theorem all_marks {x m1 m2 : Int} (hx : gcbI x = 0) (h1 : gcbI m1 = 4) (h2 : gcbI m2 = 4) (k j : Nat) :
    (allI (x :: (List.replicate k m1 ++ x :: List.replicate j m2))).map List.length = sizes k 1 ++ sizes j 1 := by
  have hz : nextI zero x = ⟨true, 0, false, false⟩ := next_letter hx zero
  have hsane : Clu.saneB (⟨true, 0, false, false⟩ : CS) = true := by decide
  unfold allI
  rw [segs_cons, if_neg (by simp), List.nil_append, hz, segs_run]
  obtain ⟨g1, g2, g3, g4⟩ := marks_sizes h1 k [x] ⟨true, 0, false, false⟩ (by simp) hsane rfl (by decide)
  have ho := run_open [x] ⟨true, 0, false, false⟩ (List.replicate k m1) (.inl (by simp))
  obtain ⟨C, S, R, hR⟩ : ∃ C S R, runI [x] ⟨true, 0, false, false⟩ (List.replicate k m1) = (R, (C, S)) := ⟨_, _, _, rfl⟩
  rw [hR] at g1 g2 g3 g4 ho ⊢
  dsimp only at g1 g2 g3 g4 ho ⊢
  rw [segs_cons, if_pos ⟨ho, .inl (ends_letter g2 g3 g4 hx)⟩, next_letter hx S]
  have e := segs_run [x] ⟨true, 0, false, false⟩ (List.replicate j m2) []
  rw [List.append_nil] at e
  rw [e]
  obtain ⟨f1, _, _, _⟩ := marks_sizes h2 j [x] ⟨true, 0, false, false⟩ (by simp) hsane rfl (by decide)
  have ho2 := run_open [x] ⟨true, 0, false, false⟩ (List.replicate j m2) (.inl (by simp))
  obtain ⟨C2, S2, R2, hR2⟩ : ∃ C S R, runI [x] ⟨true, 0, false, false⟩ (List.replicate j m2) = (R, (C, S)) := ⟨_, _, _, rfl⟩
  rw [hR2] at f1 ho2 ⊢
  dsimp only at f1 ho2 ⊢
  rw [segs, if_neg ho2]
  have e1 : ([x] : List Int).length = 1 := rfl
  rw [e1] at g1 f1
  rw [← g1, ← f1]
  simp

end Go.Proofs.Ytbkgjbpnogcjeaa.Sgm
