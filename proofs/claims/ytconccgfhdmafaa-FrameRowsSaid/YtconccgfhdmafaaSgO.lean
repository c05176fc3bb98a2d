/- Layer 12: rows of slices of the call's own. -/
import Derived.Test.YtconccgfhdmafaaSgS
import Derived.Test.YtconccgfhdmafaaBasP
import Derived.Test.YtconccgfhdmafaaNoB
namespace Go.Proofs.Ytconccgfhdmafaa
set_option linter.unusedSimpArgs false
set_option linter.unusedVariables false
open Go.RowKit Go.Lib

namespace Sgm
open Clu (CS zero endsI nextI)
theorem segs_fed {c : List Int} {s : CS} (h : saneB c s = true) (r : Int) (t : List Int) :
    segs c s (r :: t) = if (feedI c s r).2 = [] then segs (feedI c s r).1.1 (feedI c s r).1.2 t else (feedI c s r).2 :: segs (feedI c s r).1.1 (feedI c s r).1.2 t := by
  rw [segs_cons]
  unfold feedI
  rw [if_pos h]
  unfold stepI
  by_cases hc : c ≠ [] ∧ (endsI s r = true ∨ c.length = 32)
  · rw [if_pos hc, if_pos hc]
    simp only
    rw [if_neg hc.1]
  · rw [if_neg hc, if_neg hc]
    simp
end Sgm

/-- a slice of slices, all of which are the call's own -/
def OwnR (B : Nat) (v : Value) (ls : List (List Int)) (w : World) : Prop :=
  ∃ us : List Value, w.ownsRow B 22 1 v ls.length us ∧ us.length = ls.length ∧ ∀ (i : Nat) (u : Value) (l : List Int), us[i]? = some u → ls[i]? = some l → OwnI B u l w

theorem ownR_nil (B : Nat) (w : World) : OwnR B (.slice none 0 0) [] w := ⟨[], World.ownsRow_nil w B 22 1, rfl, fun i u l h => by simp at h⟩

theorem ownR_below {B : Nat} {v : Value} {ls : List (List Int)} {w w1 : World} (h : OwnR B v ls w) (hb : Below w.heap.size w w1) : OwnR B v ls w1 := by
  obtain ⟨us, ⟨h1, h2⟩, hn, h3⟩ := h
  refine ⟨us, ⟨h1, ?_⟩, hn, fun i u l hu hl => ownI_below (h3 i u l hu hl) hb⟩
  rcases h2 with h2 | ⟨g, cap, cur, hv, hg, hh, r⟩
  · exact .inl h2
  · exact .inr ⟨g, cap, cur, hv, hg, by rw [hb.block g (Array.getElem?_eq_some_iff.1 hh).1]; exact hh, r⟩

theorem row_ne {B k : Nat} {v : Value} {ls : List (List Int)} {us : List Value} {w : World} (h : w.ownsRow B 22 1 v ls.length us) (hk : k < B) : v.ownBlock = none ∨ v.ownBlock ≠ some k := by
  cases e : v.ownBlock with
  | none => exact .inl rfl
  | some j =>
    refine .inr fun e' => ?_
    have := (World.ownsRow.lt h j e).1
    cases e'
    omega

theorem row_not {B k : Nat} {v : Value} {ls : List (List Int)} {us : List Value} {w : World} (h : w.ownsRow B 22 1 v ls.length us) (hk : k < B) : some k ≠ v.ownBlock := fun e => by
  have := (World.ownsRow.lt h k e.symm).1
  omega

theorem row_set {B : Nat} {v : Value} {n : Nat} {us : List Value} {T : TypeId} {w : World} (h : w.ownsRow B T 1 v n us) (a : Addr) (u : Value) (hne : v.ownBlock = none ∨ v.ownBlock ≠ some a.block) : (w.setCell a u).ownsRow B T 1 v n us := by
  refine ⟨h.1, ?_⟩
  rcases h.2 with h2 | ⟨g, cap, cur, rfl, hg, hh, r⟩
  · exact .inl h2
  · refine .inr ⟨g, cap, cur, rfl, hg, ?_, r⟩
    have hga : g ≠ a.block := by
      intro e
      rcases hne with hne | hne
      · cases hne
      · exact hne (by rw [e]; rfl)
    rw [heap_setCell_other w a g u hga]
    exact hh

theorem ownR_mono {B B' : Nat} {v : Value} {ls : List (List Int)} {w : World} (h : OwnR B' v ls w) (hB : B ≤ B') : OwnR B v ls w := by
  obtain ⟨us, ⟨h1, h2⟩, hn, h3⟩ := h
  refine ⟨us, ⟨h1, ?_⟩, hn, fun i u l hu hl => ownI_mono (h3 i u l hu hl) hB⟩
  rcases h2 with h2 | ⟨g, cap, cur, hv, hg, r⟩
  · exact .inl h2
  · exact .inr ⟨g, cap, cur, hv, Nat.le_trans hB hg, r⟩

theorem ownR_alloc {B : Nat} {v : Value} {ls : List (List Int)} {w : World} (h : OwnR B v ls w) (o : Obj) : OwnR B v ls (w.alloc o) := ownR_below h (below_new w o)

/-- a row of numbers is no row of slices -/
theorem own_offR {B B' n : Nat} {v vo : Value} {l : List Int} {us : List Value} {w : World} (h : OwnI B v l w) (ho : w.ownsRow B' 22 1 vo n us) : v.ownBlock = none ∨ v.ownBlock ≠ vo.ownBlock := by
  rcases h.2 with ⟨rfl, _⟩ | ⟨g, cap, cur, rfl, _, hg, _⟩
  · exact .inl rfl
  · refine .inr fun e => ?_
    rcases ho.2 with ⟨rfl, _⟩ | ⟨g', cap', cur', rfl, _, hg', _⟩
    · cases e
    · cases e
      rw [hg] at hg'
      injection hg' with hg'
      injection hg' with _ hg'
      exact absurd hg' (by decide)

theorem rr_of_ownR {B : Nat} {v : Value} {ls : List (List Int)} {w : World} (h : OwnR B v ls w) : RR w v ls := by
  obtain ⟨us, h1, hn, h3⟩ := h
  have hc := fun g hg => World.ownsRow.cells (g := g) h1 hg
  have hlt := World.ownsRow.lt h1
  rcases h1.2 with ⟨rfl, hl⟩ | ⟨g, cap, cur, rfl, hB, _, hncap, _⟩
  · exact .inl ⟨rfl, List.eq_nil_of_length_eq_zero hl⟩
  · refine .inr ⟨⟨g, 0, none⟩, cap, rfl, hncap, fun _ => ⟨g, 0, rfl, (hlt g rfl).2, fun i hi => ?_⟩⟩
    have hu : us[i]? = some (us[i]'(by omega)) := List.getElem?_eq_getElem (by omega)
    refine ⟨us[i]'(by omega), ?_, ri_of_own (h3 i _ _ hu (List.getElem?_eq_getElem hi))⟩
    have h := hc g rfl i _ hu
    have hadd : (⟨g, 0, none⟩ : Addr).add i = ⟨g, i, none⟩ := by unfold Addr.add; split <;> simp_all
    rw [hadd] at h
    simpa using h

theorem info_r : (Try.prog.info? 22).map (fun i => (i.zero, i.size, i.bytes)) = some (some (.slice none 0 0), 1, 24) := by kernel_rfl

/-- what an append of one slice leaves -/
theorem ownR_more {B : Nat} {v v' u : Value} {ls : List (List Int)} {us : List Value} {l : List Int} {w w' : World} (hr : w.ownsRow B 22 1 v ls.length us) (hn : us.length = ls.length)
    (h3 : ∀ (i : Nat) (u : Value) (l : List Int), us[i]? = some u → ls[i]? = some l → OwnI B u l w) (ho : OwnI B u l w) (hr' : w'.ownsRow B 22 1 v' (ls.length + 1) (us ++ [u])) (hg : w.grownBy w' v.ownBlock) : OwnR B v' (ls ++ [l]) w' := by
  refine ⟨us ++ [u], by simpa using hr', by simp [hn], fun i x y hx hy => ?_⟩
  by_cases hi : i < us.length
  · rw [List.getElem?_append_left hi] at hx
    rw [List.getElem?_append_left (by omega)] at hy
    have := h3 i x y hx hy
    exact World.ownsRow.kept this hg (own_offR this hr)
  · have hi2 : i = us.length := by
      have := (List.getElem?_eq_some_iff.1 hx).1
      simp at this
      omega
    subst hi2
    rw [List.getElem?_append_right (Nat.le_refl _), Nat.sub_self] at hx
    rw [List.getElem?_append_right (by omega), hn, Nat.sub_self] at hy
    simp at hx hy
    subst hx
    subst hy
    exact World.ownsRow.kept ho hg (own_offR ho hr)

end Go.Proofs.Ytconccgfhdmafaa
