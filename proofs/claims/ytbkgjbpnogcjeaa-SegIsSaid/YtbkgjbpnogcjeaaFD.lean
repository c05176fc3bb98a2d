/- How a state of layer 12 (a list, and a struct of four fields) reads as an argument. -/
import Derived.Test.YtbkgjbpnogcjeaaFP
import Derived.Test.YtbkgjbpnogcjeaaSgB
namespace Go.Proofs.Ytbkgjbpnogcjeaa
set_option linter.unusedSimpArgs false
set_option linter.unusedVariables false
open Go.ChangeShapes Go.WideShapes Go.ChangeAt Go.RowKit Go.Joins Go.Deep

section
variable {H : Type} {enc : TypeId × Value → H} {W : World} {b0 : Nat} {r : Reach}

theorem open_five {P : Program} {t : TypeId} {f0 f1 g0 g1 g2 g3 : Field} {v : Value} {d : DataW H} {p : List MemPlace} {w : World} {base : Nat} {spare : Nat → Bool} {held : Bool} (hs : P.underlying t = some (.struct #[f0, f1])) (hC : P.cellsOf t = 5)
    (ho : (f0.offset, P.cellsOf f0.type, f1.offset, P.cellsOf f1.type) = (0, 1, 1, 4))
    (hs1 : P.underlying f1.type = some (.struct #[g0, g1, g2, g3])) (hone : oneCellFields P #[g0, g1, g2, g3] = true)
    (hv : Value.okWide P w r b0 t v) (h : DataW.Trod enc P w base spare held t v d p) :
    ∃ (v0 v1 v2 v3 v4 : Value) (y0 y1 y2 y3 y4 : DataW H × List MemPlace) (n n2 : Nat), v = .agg #[v0, v1, v2, v3, v4] ∧ DataW.trod enc P w base spare held n f0.type [v0] = some y0 ∧ DataW.trod enc P w base spare held n2 g0.type [v1] = some y1 ∧ DataW.trod enc P w base spare held n2 g1.type [v2] = some y2 ∧ DataW.trod enc P w base spare held n2 g2.type [v3] = some y3 ∧ DataW.trod enc P w base spare held n2 g3.type [v4] = some y4 := by
  simp only [Prod.mk.injEq] at ho
  obtain ⟨a0, a1, a2, a3⟩ := ho
  obtain ⟨cs, rfl, hsz⟩ := okWide_struct hs hv
  obtain ⟨l⟩ := cs
  match l, hsz.trans hC with
  | [c0, c1, c2, c3, c4], _ =>
    obtain ⟨fuel, hf⟩ := h
    obtain ⟨xs, n, _, hx, _, hlen, hg⟩ := DataW.trod_struct hs hf
    match xs, hlen with
    | [y0, z], _ =>
      have h0 : DataW.trod enc P w base spare held n f0.type [c0] = some y0 := by simpa [Value.cells, a0, a1] using hg 0 f0 rfl
      have h1 : DataW.trod enc P w base spare held n f1.type [c1, c2, c3, c4] = some z := by simpa [Value.cells, a2, a3] using hg 1 f1 rfl
      obtain ⟨ys, n2, _, _, _, hlen2, hg2⟩ := DataW.trod_struct hs1 h1
      obtain ⟨o0, k0⟩ := hone_of hone 0 g0 rfl
      obtain ⟨o1, k1⟩ := hone_of hone 1 g1 rfl
      obtain ⟨o2, k2⟩ := hone_of hone 2 g2 rfl
      obtain ⟨o3, k3⟩ := hone_of hone 3 g3 rfl
      match ys, hlen2 with
      | [y1, y2, y3, y4], _ => exact ⟨c0, c1, c2, c3, c4, y0, y1, y2, y3, y4, n, n2, rfl, h0, by simpa [o0, k0] using hg2 0 g0 rfl, by simpa [o1, k1] using hg2 1 g1 rfl, by simpa [o2, k2] using hg2 2 g2 rfl, by simpa [o3, k3] using hg2 3 g3 rfl⟩

set_option maxRecDepth 100000 in
theorem read_sstate {v : Value} {d : DataW H} {p : List MemPlace} (hv : Value.okWide Try.prog W r b0 26 v) (h : DataW.Trod enc Try.prog W 0 (fun _ => true) true 26 v d p) :
    ∃ (u : Value) (l : List Int) (s : Clu.CS), v = sgV u s ∧ RI W u l ∧ ∀ x ∈ l, -9223372036854775808 ≤ x ∧ x ≤ 9223372036854775807 := by
  obtain ⟨v0, v1, v2, v3, v4, y0, y1, y2, y3, y4, n, n2, rfl, hf, h1, h2, h3, h4⟩ := open_five Try.underlying26 (by kernel_rfl) (by kernel_rfl) Try.underlying24 (by kernel_rfl) hv h
  obtain ⟨on, e1, _⟩ := DataW.trod_bool Try.underlying4 h1
  obtain ⟨k, e2, _, _⟩ := DataW.trod_int Try.underlying3 h2
  obtain ⟨q, e3, _⟩ := DataW.trod_bool Try.underlying4 h3
  obtain ⟨o, e4, _⟩ := DataW.trod_bool Try.underlying4 h4
  simp only [List.cons.injEq, and_true] at e1 e2 e3 e4
  subst e1 e2 e3 e4
  rcases open_ints Try.underlying22 Try.underlying3 (by kernel_rfl) hf with ⟨hcs, _⟩ | ⟨x, l, c, zs, hcs, _, hl, hm, hz, _, hcell, hwz⟩
  · simp at hcs
    subst hcs
    exact ⟨_, [], ⟨on, k, q, o⟩, rfl, .inl ⟨rfl, rfl⟩, fun x hx => by cases hx⟩
  · simp at hcs
    subst hcs
    have hzl : zs.length = c := by simpa using hz
    have hlen : (zs.take l).length = l := by rw [List.length_take]; omega
    refine ⟨_, zs.take l, ⟨on, k, q, o⟩, rfl, .inr ⟨x, c, by rw [hlen], by omega, fun h0 => ?_⟩, fun y hy => bounds_i64 (hwz y (List.mem_of_mem_take hy))⟩
    rw [hlen] at h0
    have hc0 := hcell 0 (by omega)
    obtain ⟨b, off, spot⟩ := x
    have hspot : spot = none := by simpa [Addr.add] using World.cell?_spot hc0
    subst hspot
    refine ⟨b, off, rfl, ?_, fun i hi => ?_⟩
    · exact World.block_lt_of_cell? _ _ hc0
    · have hi' : i < zs.length := by rw [hlen] at hi; omega
      have h := hcell i hi'
      have hadd : (⟨b, off, none⟩ : Addr).add i = ⟨b, off + i, none⟩ := by unfold Addr.add; split <;> simp_all
      rw [hadd] at h
      rw [h, List.getElem_take, List.getD_eq_getElem?_getD, List.getElem?_eq_getElem hi']
      rfl

end
end Go.Proofs.Ytbkgjbpnogcjeaa
