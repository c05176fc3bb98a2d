/- Layer 13: bytes in the middle of bytes, texts as cells, and what All makes of what Take makes. -/
import Derived.Test.YtconccgfhdmafaaFrS
import Derived.OwnWalk
namespace Go.Proofs.Ytconccgfhdmafaa
set_option linter.unusedSimpArgs false
set_option linter.unusedVariables false
open Go.RowKit Go.Lib

theorem strV_cells (t : List UInt8) : Lib.strCells ⟨t.toArray⟩ = Lib.byteCells t := by simp [Lib.strCells, Lib.byteCells]

theorem bytes_mid {w : World} {b off n cap : Nat} {l : List UInt8} (h : RBytes w (.slice (some ⟨b, off, none⟩) n cap) l) (k m c : Nat) (hk : k + m ≤ l.length) (hc : m ≤ c) : RBytes w (.slice (some ⟨b, off + k, none⟩) m c) ((l.drop k).take m) := by
  have hlen : ((l.drop k).take m).length = m := by rw [List.length_take, List.length_drop]; omega
  refine .inr ⟨_, c, by rw [hlen], by omega, fun h0 => ⟨b, off + k, rfl, ?_, fun i hi => ?_⟩⟩
  · obtain ⟨b', o', he, h1, _⟩ := bytes_at h (by omega)
    cases he
    exact h1
  · obtain ⟨b', o', he, _, h2⟩ := bytes_at h (by omega)
    cases he
    rw [List.getElem_take, List.getElem_drop, Nat.add_assoc]
    exact h2 (k + i) (by omega)

theorem bytes_zero {w : World} {a : Addr} {m c : Nat} {M : List UInt8} (h : M.length = m) (h0 : m = 0) : RBytes w (.slice (some a) m c) M := by
  subst h0
  obtain rfl := List.eq_nil_of_length_eq_zero h
  exact .inr ⟨a, c, rfl, Nat.zero_le _, fun h => by simp at h⟩

theorem took_err {b : List UInt8} {c : Int} (h : Var.takeL b = (0, 0, c)) (hc : c ≠ 0) : Frm.takeF b = ([], 0, c) := by
  unfold Frm.takeF
  rw [h]
  simp [hc]
theorem took_short {b : List UInt8} {m k : Nat} (h : Var.takeL b = ((m : Int), (k : Int), 0)) (hs : (b.length : Int) - k < m) : Frm.takeF b = ([], 0, 1) := by
  unfold Frm.takeF
  rw [h]
  simp only [ne_eq, not_true, if_false]
  rw [if_pos hs]
theorem took_ok {b : List UInt8} {m k : Nat} (h : Var.takeL b = ((m : Int), (k : Int), 0)) (hs : ¬ (b.length : Int) - k < m) : Frm.takeF b = ((b.drop k).take m, (k : Int) + m, 0) := by
  unfold Frm.takeF
  rw [h]
  simp only [ne_eq, not_true, if_false]
  rw [if_neg hs]
  simp

namespace Frm
theorem all_none : allF [] = ([], 0, 0) := by simp [allF, allU]
theorem all_err {b : List UInt8} (h0 : b ≠ []) (he : (takeF b).2.2 ≠ 0) : allF b = ([], 0, (takeF b).2.2) := by
  unfold allF
  cases b with
  | nil => exact absurd rfl h0
  | cons c t => rw [List.length_cons, allU, if_neg h0, if_pos he]
theorem all_ok {b : List UInt8} (he : (takeF b).2.2 = 0) : ∃ n : Nat, (takeF b).2.1 = n ∧ 1 ≤ n ∧ n ≤ b.length ∧ allF b = ((takeF b).1 :: (allF (b.drop n)).1, (n : Int) + (allF (b.drop n)).2.1, (allF (b.drop n)).2.2) := by
  obtain ⟨t, r, rfl, ht, htk⟩ := take_ok he
  refine ⟨(frameOf t).length, by rw [htk], frame_pos t, by simp, ?_⟩
  have h := all_frames [t] (fun x hx => by rw [List.mem_singleton] at hx; subst hx; exact ht) r
  have e : framesOf [t] = frameOf t := by simp [framesOf]
  rw [e] at h
  rw [h, List.drop_left, htk]
  rfl
end Frm

theorem srcT_one (w : World) (v : Value) (T : TypeId) : Src (w.alloc (.cells #[v] T)) (.slice (some ⟨w.heap.size, 0, none⟩) 1 1) [v] := by
  refine .inr ⟨_, 1, rfl, fun j u hu => ?_⟩
  cases j with
  | zero =>
    simp at hu
    subst hu
    exact blk_cell (blk_new w _ _) 0 _ rfl
  | succ j => simp at hu
theorem oneCellS (t : List UInt8) : ∀ u ∈ [strV t], u.oneCell' = true := by
  intro u hu
  rw [List.mem_singleton] at hu
  subst hu
  rfl
theorem bytes_from {w : World} {b off n cap : Nat} {l : List UInt8} (h : RBytes w (.slice (some ⟨b, off, none⟩) n cap) l) (k : Nat) (hk : k ≤ l.length) (hn : n = l.length) (hc : n ≤ cap) : RBytes w (.slice (some ⟨b, off + k, none⟩) (n - k) (cap - k)) (l.drop k) := by
  have := bytes_mid h k (l.length - k) (cap - k) (by omega) (by omega)
  rw [List.take_of_length_le (by simp)] at this
  rw [hn]
  exact this

/-- what the loop of All holds: as many texts as came so far, and what is behind them -/
def AllAt (b : List UInt8) (k : Nat) (ts : List (List UInt8)) : Prop := Frm.allF b = (ts ++ (Frm.allF (b.drop k)).1, (k : Int) + (Frm.allF (b.drop k)).2.1, (Frm.allF (b.drop k)).2.2)

end Go.Proofs.Ytconccgfhdmafaa
