/- How a machine of layer 15 (nine cells in five fields) reads as an argument. -/
import Derived.Test.YtiidjkhkcckmkaaGreatDoorFP
import Derived.Test.YtiidjkhkcckmkaaGreatDoorMaS
namespace Go.Proofs.YtiidjkhkcckmkaaGreatDoor
set_option linter.unusedSimpArgs false
set_option linter.unusedVariables false
open Go.ChangeShapes Go.WideShapes Go.ChangeAt Go.RowKit Go.Joins Go.Deep
open Mch (MS)
section
variable {H : Type} {enc : TypeId × Value → H} {W : World} {b0 : Nat} {r : Reach}
theorem open_nine {P : Program} {t : TypeId} {f0 f1 f2 f3 f4 : Field} {v : Value} {d : DataW H} {p : List MemPlace} {w : World} {base : Nat} {spare : Nat → Bool} {held : Bool} (hs : P.underlying t = some (.struct #[f0, f1, f2, f3, f4])) (hC : P.cellsOf t = 9)
    (ho : (f0.offset, P.cellsOf f0.type, f1.offset, P.cellsOf f1.type, f2.offset, P.cellsOf f2.type, f3.offset, P.cellsOf f3.type, f4.offset, P.cellsOf f4.type) = (0, 1, 1, 1, 2, 1, 3, 5, 8, 1))
    (hv : Value.okWide P w r b0 t v) (h : DataW.Trod enc P w base spare held t v d p) :
    ∃ (c0 c1 c2 c3 c4 c5 c6 c7 c8 : Value) (y0 y1 y2 y3 y4 : DataW H × List MemPlace) (n : Nat), v = .agg #[c0, c1, c2, c3, c4, c5, c6, c7, c8] ∧ DataW.trod enc P w base spare held n f0.type [c0] = some y0 ∧ DataW.trod enc P w base spare held n f1.type [c1] = some y1 ∧ DataW.trod enc P w base spare held n f2.type [c2] = some y2 ∧ DataW.trod enc P w base spare held n f3.type [c3, c4, c5, c6, c7] = some y3 ∧ DataW.trod enc P w base spare held n f4.type [c8] = some y4 := by
  simp only [Prod.mk.injEq] at ho
  obtain ⟨a0, a1, a2, a3, a4, a5, a6, a7, a8, a9⟩ := ho
  obtain ⟨cs, rfl, hsz⟩ := okWide_struct hs hv
  obtain ⟨l⟩ := cs
  match l, hsz.trans hC with
  | [c0, c1, c2, c3, c4, c5, c6, c7, c8], _ =>
    obtain ⟨fuel, hf⟩ := h
    obtain ⟨xs, n, _, hx, _, hlen, hg⟩ := DataW.trod_struct hs hf
    match xs, hlen with
    | [y0, y1, y2, y3, y4], _ =>
      exact ⟨c0, c1, c2, c3, c4, c5, c6, c7, c8, y0, y1, y2, y3, y4, n, rfl, by simpa [Value.cells, a0, a1] using hg 0 f0 rfl, by simpa [Value.cells, a2, a3] using hg 1 f1 rfl, by simpa [Value.cells, a4, a5] using hg 2 f2 rfl, by simpa [Value.cells, a6, a7] using hg 3 f3 rfl, by simpa [Value.cells, a8, a9] using hg 4 f4 rfl⟩
theorem open_one1 {P : Program} {t : TypeId} {g0 : Field} {v : Value} {y : DataW H × List MemPlace} {w : World} {base n : Nat} {spare : Nat → Bool} {held : Bool} (hs : P.underlying t = some (.struct #[g0])) (ho : (g0.offset, P.cellsOf g0.type) = (0, 1)) (h : DataW.trod enc P w base spare held n t [v] = some y) :
    ∃ n2 z, DataW.trod enc P w base spare held n2 g0.type [v] = some z := by
  simp only [Prod.mk.injEq] at ho
  obtain ⟨a0, a1⟩ := ho
  obtain ⟨xs, n2, _, _, _, hlen, hg⟩ := DataW.trod_struct hs h
  match xs, hlen with
  | [z], _ => exact ⟨n2, z, by simpa [a0, a1] using hg 0 g0 rfl⟩
theorem ints_of15 {n : Nat} {v : Value} {y : DataW H × List MemPlace} (hf : DataW.trod enc Tryz.prog W 0 (fun _ => true) true n 24 [v] = some y) : ∃ l : List Int, RI W v l := by
  rcases open_ints Tryz.underlying24 Tryz.underlying3 (by kernel_rfl) hf with ⟨hcs, _⟩ | ⟨x, l, c, zs, hcs, _, hl, hm, hz, _, hcell, hwz⟩
  · simp at hcs
    subst hcs
    exact ⟨[], .inl ⟨rfl, rfl⟩⟩
  · simp at hcs
    subst hcs
    have hzl : zs.length = c := by simpa using hz
    have hlen : (zs.take l).length = l := by rw [List.length_take]; omega
    refine ⟨zs.take l, .inr ⟨x, c, by rw [hlen], by omega, fun h0 => ?_⟩⟩
    rw [hlen] at h0
    have hc0 := hcell 0 (by omega)
    obtain ⟨b, off, spot⟩ := x
    have hspot : spot = none := by simpa [Addr.add] using World.cell?_spot hc0
    subst hspot
    refine ⟨b, off, rfl, ?_, fun i hi => ?_⟩
    · exact World.block_lt_of_cell? _ _ hc0
    · have hi' : i < zs.length := by rw [hlen] at hi; omega
      have h := hcell i hi'
      have hadd : (⟨b, off, none⟩ : Addr).add i = ⟨b, off + i, none⟩ := by unfold Addr.add; split <;> simp_all
      rw [hadd] at h
      rw [h, List.getElem_take, List.getD_eq_getElem?_getD, List.getElem?_eq_getElem hi']
      rfl
theorem open_seg15 {P : Program} {t : TypeId} {f0 f1 g0 g1 g2 g3 : Field} {v0 v1 v2 v3 v4 : Value} {y : DataW H × List MemPlace} {w : World} {base n : Nat} {spare : Nat → Bool} {held : Bool} (hs : P.underlying t = some (.struct #[f0, f1]))
    (ho : (f0.offset, P.cellsOf f0.type, f1.offset, P.cellsOf f1.type) = (0, 1, 1, 4))
    (hs1 : P.underlying f1.type = some (.struct #[g0, g1, g2, g3])) (hone : oneCellFields P #[g0, g1, g2, g3] = true)
    (h : DataW.trod enc P w base spare held n t [v0, v1, v2, v3, v4] = some y) :
    ∃ (y0 y1 y2 y3 y4 : DataW H × List MemPlace) (n1 n2 : Nat), DataW.trod enc P w base spare held n1 f0.type [v0] = some y0 ∧ DataW.trod enc P w base spare held n2 g0.type [v1] = some y1 ∧ DataW.trod enc P w base spare held n2 g1.type [v2] = some y2 ∧ DataW.trod enc P w base spare held n2 g2.type [v3] = some y3 ∧ DataW.trod enc P w base spare held n2 g3.type [v4] = some y4 := by
  simp only [Prod.mk.injEq] at ho
  obtain ⟨a0, a1, a2, a3⟩ := ho
  obtain ⟨xs, n1, _, hx, _, hlen, hg⟩ := DataW.trod_struct hs h
  match xs, hlen with
  | [y0, z], _ =>
    have h0 : DataW.trod enc P w base spare held n1 f0.type [v0] = some y0 := by simpa [a0, a1] using hg 0 f0 rfl
    have h1 : DataW.trod enc P w base spare held n1 f1.type [v1, v2, v3, v4] = some z := by simpa [a2, a3] using hg 1 f1 rfl
    obtain ⟨ys, n2, _, _, _, hlen2, hg2⟩ := DataW.trod_struct hs1 h1
    obtain ⟨o0, k0⟩ := hone_of hone 0 g0 rfl
    obtain ⟨o1, k1⟩ := hone_of hone 1 g1 rfl
    obtain ⟨o2, k2⟩ := hone_of hone 2 g2 rfl
    obtain ⟨o3, k3⟩ := hone_of hone 3 g3 rfl
    match ys, hlen2 with
    | [y1, y2, y3, y4], _ => exact ⟨y0, y1, y2, y3, y4, n1, n2, h0, by simpa [o0, k0] using hg2 0 g0 rfl, by simpa [o1, k1] using hg2 1 g1 rfl, by simpa [o2, k2] using hg2 2 g2 rfl, by simpa [o3, k3] using hg2 3 g3 rfl⟩
set_option maxRecDepth 100000 in
theorem read_mstate {v : Value} {d : DataW H} {p : List MemPlace} (hv : Value.okWide Tryz.prog W r b0 32 v) (h : DataW.Trod enc Tryz.prog W 0 (fun _ => true) true 32 v d p) : ∃ m : MS, RM W v m := by
  obtain ⟨c0, c1, c2, c3, c4, c5, c6, c7, c8, y0, y1, y2, y3, y4, n, rfl, h0, h1, h2, h3, h4⟩ := open_nine Tryz.underlying32 (by kernel_rfl) (by kernel_rfl) hv h
  obtain ⟨k, e0, _, _⟩ := DataW.trod_int Tryz.underlying3 h0
  obtain ⟨_, _, h1⟩ := open_one1 Tryz.underlying23 (by kernel_rfl) h1
  obtain ⟨s, e1, _, _⟩ := DataW.trod_string Tryz.underlying9 h1
  obtain ⟨_, _, h2⟩ := open_one1 Tryz.underlying26 (by kernel_rfl) h2
  obtain ⟨ln, rn⟩ := ints_of15 h2
  obtain ⟨_, _, _, _, _, _, _, g0, g1, g2, g3, g4⟩ := open_seg15 Tryz.underlying30 (by kernel_rfl) Tryz.underlying28 (by kernel_rfl) h3
  obtain ⟨lg, rg⟩ := ints_of15 g0
  obtain ⟨on, e4, _⟩ := DataW.trod_bool Tryz.underlying4 g1
  obtain ⟨kd, e5, _, _⟩ := DataW.trod_int Tryz.underlying3 g2
  obtain ⟨q, e6, _⟩ := DataW.trod_bool Tryz.underlying4 g3
  obtain ⟨o, e7, _⟩ := DataW.trod_bool Tryz.underlying4 g4
  obtain ⟨lc, rc⟩ := ints_of15 h4
  simp only [List.cons.injEq, and_true] at e0 e1 e4 e5 e6 e7
  subst e0 e1 e4 e5 e6 e7
  refine ⟨⟨k, s.data.toList, ln, lg, ⟨on, kd, q, o⟩, lc⟩, _, _, _, ?_, rn, rg, rc⟩
  unfold mchV strV
  cases s
  simp
end
end Go.Proofs.YtiidjkhkcckmkaaGreatDoor
