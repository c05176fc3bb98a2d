/- How a row of what is done (layer 16) reads as an argument. -/
import Derived.Test.YtcbfgcmdlfediaaFE
import Derived.Test.YtcbfgcmdlfediaaChO
import Derived.Deep.SlicePairs
namespace Go.Proofs.Ytcbfgcmdlfediaa
set_option linter.unusedSimpArgs false
set_option linter.unusedVariables false
open Go.ChangeShapes Go.WideShapes Go.ChangeAt Go.RowKit Go.Joins Go.Deep
section
variable {H : Type} {enc : TypeId × Value → H} {W : World} {b0 : Nat} {r : Reach}
set_option maxRecDepth 100000 in
theorem read_ops16 {v : Value} {d : DataW H} {p : List MemPlace} (hv : Value.okWide Try.prog W r b0 46 v) (h : DataW.Trod enc Try.prog W 0 (fun _ => true) true 46 v d p) :
    ∃ ops : List (Int × List Int), ROps W v ops ∧ (∀ x ∈ ops, WfI x.2) ∧ ops.length ≤ maxLen := by
  obtain ⟨a0, len0, cap0, rfl⟩ := okWide_slice Try.underlying46 hv
  obtain ⟨fuel, hf⟩ := h
  rcases open_slice_pairs Try.underlying46 Try.underlying49 (by kernel_rfl) rfl rfl (by kernel_rfl) (by kernel_rfl) hf with ⟨hcs, _⟩ | ⟨a, len, cap, m, k, V0, V1, D0, D1, P0, P1, hcs, _, hl, hm, hmm, _, hx⟩
  · simp [Value.cells] at hcs
    obtain ⟨rfl, rfl, rfl⟩ := hcs
    exact ⟨[], .inl ⟨rfl, rfl⟩, fun x hx => (by cases hx), Nat.zero_le _⟩
  · simp [Value.cells] at hcs
    obtain ⟨rfl, rfl, rfl⟩ := hcs
    have hmc : m = cap0 := by simpa using hmm
    obtain ⟨ops, hn, hp⟩ := list_of len0 (fun i (x : Int × List Int) => W.cell? (a.add (i * 2)) = some (.int .i64 x.1) ∧ W.cell? (a.add (i * 2 + 1)) = some (V1 i) ∧ RI W (V1 i) x.2 ∧ WfI x.2) fun i hi => by
      obtain ⟨h1, h2, h3, h4⟩ := hx i (by omega)
      obtain ⟨z, e, _, _⟩ := DataW.trod_int Try.underlying3 h3
      simp only [List.cons.injEq, and_true] at e
      obtain ⟨l, h5, h6, _⟩ := ints_of_trod h4
      exact ⟨(z, l), by rw [h1, e], h2, h5, h6⟩
    subst hn
    refine ⟨ops, .inr ⟨a, cap0, rfl, hl, fun h0 => ?_⟩, fun x hx => ?_, by omega⟩
    · have hc0 := (hp 0 h0).1
      obtain ⟨b, off, spot⟩ := a
      have hspot : spot = none := by simpa [Addr.add] using World.cell?_spot hc0
      subst hspot
      have hadd : ∀ i, (⟨b, off, none⟩ : Addr).add i = ⟨b, off + i, none⟩ := fun i => by unfold Addr.add; split <;> simp_all
      refine ⟨b, off, rfl, World.block_lt_of_cell? _ _ hc0, fun i hi => ?_⟩
      obtain ⟨h1, h2, h3, _⟩ := hp i hi
      rw [hadd] at h1 h2
      exact ⟨h1, V1 i, h2, h3⟩
    · obtain ⟨i, hi, rfl⟩ := List.getElem_of_mem hx
      exact (hp i hi).2.2.2
end
end Go.Proofs.Ytcbfgcmdlfediaa
