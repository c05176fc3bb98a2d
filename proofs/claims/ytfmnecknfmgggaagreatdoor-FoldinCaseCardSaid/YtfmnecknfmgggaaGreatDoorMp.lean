/- Small laws of our own: a map that a call makes by a literal of whole numbers. -/
import Derived.Test.YtfmnecknfmgggaaGreatDoorBasP
import Derived.Maps.Own
import Derived.Maps.OwnOps
import Derived.Maps.OwnSet
import Derived.Maps.Views
import Derived.OneCell
namespace Go.Proofs.YtfmnecknfmgggaaGreatDoor
set_option linter.unusedSimpArgs false
set_option linter.unusedVariables false
open Go Go.RowKit Go.Lib Go.Maps

/-- what the first n operations put in the map of slot s -/
def fillsOf (T : TypeId) (q r : IntKind) (s : Nat) : Nat → List Oper → Option (List (Int × Int))
  | 0, _ => some []
  | n + 1, o :: rest =>
    match o.guard, o.dst, o.op with
    | none, none, .insert t (.tmp s') (.const (.int q' k)) (.const (.int r' v)) =>
      if t = T ∧ s' = s ∧ q' = q ∧ r' = r ∧ (Lit.int q k).wf = true ∧ (Lit.int r v).wf = true then (fillsOf T q r s n rest).map ((k, v) :: ·) else none
    | _, _, _ => none
  | _ + 1, [] => none

abbrev putAll (q r : IntKind) (D : DataW Unit) (rows : List (Int × Int)) : DataW Unit := rows.foldl (fun D p => D.put (.int q p.1) (.lit (.int r p.2))) D

theorem wpList_fills {P : Program} {ops : Array Oper} {Q : Exit → Act → World → Prop} {T k e : TypeId} {q r : IntKind} {s : Nat} (hk : P.underlying k = some (.int q)) (he : P.underlying e = some (.int r)) (ht : P.underlying T = some (.map k e)) :
    ∀ (n : Nat) {l : List Oper} {rows : List (Int × Int)} {a : Act} {w : World} {b m : Nat} {D : DataW Unit},
    fillsOf T q r s n l = some rows → a.eval (.tmp s) = .map (some b) → w.ownsMap P k (plainElem P e) b m D → m + n ≤ maxLen →
    (∀ w', w'.ownsMap P k (plainElem P e) b (m + n) (putAll q r D rows) → w.grownBy w' (some b) → wpList P ops Q (l.drop n) a w') →
    wpList P ops Q l a w
  | 0, l, rows, a, w, b, m, D, h, _, ho, _, K => by
    simp only [fillsOf, Option.some.injEq] at h
    subst h
    exact K w ho ⟨rfl, rfl, rfl, Nat.le_refl _, fun _ _ _ => rfl⟩
  | n + 1, [], rows, a, w, b, m, D, h, _, _, _, _ => by simp [fillsOf] at h
  | n + 1, ⟨dst, op, ty, pos, aft, gd⟩ :: rest, rows, a, w, b, m, D, h, hs, ho, hm, K => by
    unfold fillsOf at h
    split at h
    · rename_i t s' q' kk r' v hg hd hop
      dsimp only at hg hd hop
      subst hg hd hop
      split at h
      · rename_i hc
        obtain ⟨rfl, rfl, rfl, rfl, hw1, hw2⟩ := hc
        cases hr : fillsOf t q' r' s' n rest with
        | none => rw [hr] at h; simp at h
        | some rs =>
          rw [hr] at h
          simp only [Option.map_some, Option.some.injEq] at h
          subst h
          refine wpList_plain rfl fun K' hK' => ?_
          obtain ⟨w', hrun, r1, r2⟩ := ho.update (int_keyed hk) ht (by omega) (keyOf_int_mk hk hw1) (plainElem_int he hw2)
          unfold Oper.wp
          have hs' : a.eval (.tmp s') = .map (some b) := hs
          have e1 : a.eval (.const (.int q' kk)) = .int q' kk := rfl
          have e2 : a.eval (.const (.int r' v)) = .int r' v := rfl
          simp [execOp, hs', e1, e2, hrun, Result.andThen]
          refine hK' _ _ ?_
          refine wpList_fills hk he ht n (b := b) (m := m + 1) hr hs r1 (by omega) fun w2 o2 g2 => ?_
          refine K w2 (by rw [show m + (n + 1) = m + 1 + n by omega]; exact o2) ?_
          exact r2.trans g2
      · cases h
    · cases h
end Go.Proofs.YtfmnecknfmgggaaGreatDoor
