/- Layer 16, plain mathematics: channels of blocks. -/
import Derived.Test.YtcbfgcmdlfediaaBasP
namespace Go.Proofs.Ytcbfgcmdlfediaa.Stg
set_option linter.unusedSimpArgs false
set_option linter.unusedVariables false
/-- a channel -/
structure Ch where
  L : List (List Int)
  closed : Bool
deriving DecidableEq
def saneC (c : Ch) : Bool := decide (c.L.length ≤ 2) && c.L.all fun b => decide (1 ≤ b.length) && decide (b.length ≤ 8)
def asC (c : Ch) : Ch := if saneC c = true then c else ⟨[], false⟩
def okB (b : List Int) : Bool := decide (1 ≤ b.length) && decide (b.length ≤ 8)
def putC (c : Ch) (b : List Int) : Ch × Bool :=
  if okB b = true ∧ (asC c).closed = false ∧ (asC c).L.length < 2 then (⟨(asC c).L ++ [b], false⟩, true) else (asC c, false)
def takeC (c : Ch) : Ch × List Int × Bool :=
  match (asC c).L with
  | [] => (asC c, [], false)
  | b :: t => (⟨t, (asC c).closed⟩, b, true)
def closeC (c : Ch) : Ch := ⟨(asC c).L, true⟩
def spentC (c : Ch) : Bool := (asC c).closed && (asC c).L.isEmpty
def countC (c : Ch) : Nat := (asC c).L.flatten.length
theorem saneC_iff (c : Ch) : saneC c = true ↔ c.L.length ≤ 2 ∧ ∀ b ∈ c.L, 1 ≤ b.length ∧ b.length ≤ 8 := by
  unfold saneC
  simp only [Bool.and_eq_true, decide_eq_true_eq, List.all_eq_true]
theorem asC_sane (c : Ch) : saneC (asC c) = true := by unfold asC; split; assumption; rfl
theorem asC_same {c : Ch} (h : saneC c = true) : asC c = c := by unfold asC; rw [if_pos h]
theorem asC_asC (c : Ch) : asC (asC c) = asC c := asC_same (asC_sane c)
theorem okB_iff (b : List Int) : okB b = true ↔ 1 ≤ b.length ∧ b.length ≤ 8 := by unfold okB; simp
theorem put_sane (c : Ch) (b : List Int) : saneC (putC c b).1 = true := by
  unfold putC
  split
  · rename_i h
    have h1 := (saneC_iff _).1 (asC_sane c)
    have h2 := (okB_iff b).1 h.1
    refine (saneC_iff _).2 ⟨by simp; omega, fun x hx => ?_⟩
    rcases List.mem_append.1 hx with hx | hx
    · exact h1.2 x hx
    · obtain rfl : x = b := by simpa using hx
      exact h2
  · exact asC_sane c
theorem take_sane (c : Ch) : saneC (takeC c).1 = true := by
  have h1 := (saneC_iff _).1 (asC_sane c)
  unfold takeC
  split
  · exact asC_sane c
  · rename_i b t e
    rw [e] at h1
    exact (saneC_iff _).2 ⟨by have := h1.1; simp at this ⊢; omega, fun x hx => h1.2 x (List.mem_cons_of_mem _ hx)⟩
theorem close_sane (c : Ch) : saneC (closeC c) = true := by
  have h1 := (saneC_iff _).1 (asC_sane c)
  exact (saneC_iff _).2 h1
theorem flat_le {L : List (List Int)} {k : Nat} (h : ∀ b ∈ L, b.length ≤ k) : L.flatten.length ≤ k * L.length := by
  induction L with
  | nil => simp
  | cons b t ih =>
    have h1 := h b (List.mem_cons_self ..)
    have h2 := ih fun x hx => h x (List.mem_cons_of_mem _ hx)
    simp only [List.flatten_cons, List.length_append, List.length_cons]
    rw [Nat.mul_succ]
    omega
theorem count_le (c : Ch) : countC c ≤ 16 := by
  have h1 := (saneC_iff _).1 (asC_sane c)
  have h2 := flat_le (k := 8) fun b hb => (h1.2 b hb).2
  unfold countC
  omega
end Go.Proofs.Ytcbfgcmdlfediaa.Stg
