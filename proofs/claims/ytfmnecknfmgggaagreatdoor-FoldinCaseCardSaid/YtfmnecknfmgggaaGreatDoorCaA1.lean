/- Layer 6: the code's tables as maps; part, values, Fold. -/
import Derived.Test.YtfmnecknfmgggaaGreatDoorCaN
import Derived.Test.YtfmnecknfmgggaaGreatDoorMp
import Derived.Test.YtfmnecknfmgggaaGreatDoorBasP
import Derived.Carry
import Derived.KernelRfl
namespace Go.Proofs.YtfmnecknfmgggaaGreatDoor
set_option linter.unusedSimpArgs false
set_option linter.unusedVariables false
open Go.RowKit Go.Lib Go.Maps

/-- a map of the call's own, which these rows made -/
def OwnMap (w : World) (b : Nat) (rows : List (Int × Int)) : Prop := ∃ m, w.ownsMap Tryz.prog 3 (plainElem Tryz.prog 45) b m (putAll .i64 .u64 (.map []) rows)

/-- what a call that tells such a map comes to -/
def MakesMap (rows : List (Int × Int)) (w : World) (e : Ending) (w' : World) : Prop := ∃ b, e = .returned (.map (some b)) ∧ OwnMap w' b rows ∧ Below w.heap.size w w'

theorem wpList_as {P : Program} {ops : Array Oper} {Q : Exit → Act → World → Prop} {l l' : List Oper} {a : Act} {w : World} (h : l = l') (k : wpList P ops Q l' a w) : wpList P ops Q l a w := h ▸ k

theorem below_map {w w1 w2 : World} {b : Nat} (h : Below w.heap.size w w1) (hg : w1.grownBy w2 (some b)) (hb : w.heap.size ≤ b) : Below w.heap.size w w2 :=
  h.grown hg h.size (fun k hk => by cases hk; exact hb)

set_option maxRecDepth 100000 in
set_option maxHeartbeats 800000 in
theorem latin_any (w : World) : Calls Tryz.prog 57 #[] w (MakesMap Cas.latinT w) := by
  have hmm := @run_makeMap Tryz.prog
  go_enter Tryz.func57, Tryz.ntmps57
  repeat (first | ((refine wpList_fills (T := 47) (k := 3) (e := 45) (q := .i64) (r := .u64) (s := 1) Tryz.underlying3 Tryz.underlying45 Tryz.underlying47 58 (rows := Cas.latinT) (b := w.heap.size) (m := 0) (D := .map []) ?hf ?hs ?ho (by unfold maxLen; omega) ?_); (case hs => rfl); (case hf => kernel_rfl); (case ho => exact World.ownsMap_made _ _ _ _)) | go_values | go_skip | go_guarded | go_step | go_upon)
  intro w1 hown hgr
  replace hown := Lib.hid hown
  replace hgr := Lib.hid hgr
  refine wpList_as (l' := [⟨_, _, _, _, _, _⟩, ⟨_, _, _, _, _, _⟩]) rfl ?_
  go_wp2_with fail
  go_ret
  exact ⟨_, rfl, ⟨_, hown.out⟩, below_map (below_new w _) hgr.out (Nat.le_refl _)⟩

set_option maxRecDepth 100000 in
set_option maxHeartbeats 800000 in
theorem latinFurther_any (w : World) : Calls Tryz.prog 58 #[] w (MakesMap Cas.latinFurtherT w) := by
  have hmm := @run_makeMap Tryz.prog
  go_enter Tryz.func58, Tryz.ntmps58
  repeat (first | ((refine wpList_fills (T := 47) (k := 3) (e := 45) (q := .i64) (r := .u64) (s := 1) Tryz.underlying3 Tryz.underlying45 Tryz.underlying47 74 (rows := Cas.latinFurtherT) (b := w.heap.size) (m := 0) (D := .map []) ?hf ?hs ?ho (by unfold maxLen; omega) ?_); (case hs => rfl); (case hf => kernel_rfl); (case ho => exact World.ownsMap_made _ _ _ _)) | go_values | go_skip | go_guarded | go_step | go_upon)
  intro w1 hown hgr
  replace hown := Lib.hid hown
  replace hgr := Lib.hid hgr
  refine wpList_as (l' := [⟨_, _, _, _, _, _⟩, ⟨_, _, _, _, _, _⟩]) rfl ?_
  go_wp2_with fail
  go_ret
  exact ⟨_, rfl, ⟨_, hown.out⟩, below_map (below_new w _) hgr.out (Nat.le_refl _)⟩

set_option maxRecDepth 100000 in
set_option maxHeartbeats 800000 in
theorem greek_any (w : World) : Calls Tryz.prog 59 #[] w (MakesMap Cas.greekT w) := by
  have hmm := @run_makeMap Tryz.prog
  go_enter Tryz.func59, Tryz.ntmps59
  repeat (first | ((refine wpList_fills (T := 47) (k := 3) (e := 45) (q := .i64) (r := .u64) (s := 1) Tryz.underlying3 Tryz.underlying45 Tryz.underlying47 37 (rows := Cas.greekT) (b := w.heap.size) (m := 0) (D := .map []) ?hf ?hs ?ho (by unfold maxLen; omega) ?_); (case hs => rfl); (case hf => kernel_rfl); (case ho => exact World.ownsMap_made _ _ _ _)) | go_values | go_skip | go_guarded | go_step | go_upon)
  intro w1 hown hgr
  replace hown := Lib.hid hown
  replace hgr := Lib.hid hgr
  refine wpList_as (l' := [⟨_, _, _, _, _, _⟩, ⟨_, _, _, _, _, _⟩]) rfl ?_
  go_wp2_with fail
  go_ret
  exact ⟨_, rfl, ⟨_, hown.out⟩, below_map (below_new w _) hgr.out (Nat.le_refl _)⟩

set_option maxRecDepth 100000 in
set_option maxHeartbeats 800000 in
theorem latinMarked_any (w : World) : Calls Tryz.prog 60 #[] w (MakesMap Cas.latinMarkedT w) := by
  have hmm := @run_makeMap Tryz.prog
  go_enter Tryz.func60, Tryz.ntmps60
  repeat (first | ((refine wpList_fills (T := 47) (k := 3) (e := 45) (q := .i64) (r := .u64) (s := 1) Tryz.underlying3 Tryz.underlying45 Tryz.underlying47 45 (rows := Cas.latinMarkedT) (b := w.heap.size) (m := 0) (D := .map []) ?hf ?hs ?ho (by unfold maxLen; omega) ?_); (case hs => rfl); (case hf => kernel_rfl); (case ho => exact World.ownsMap_made _ _ _ _)) | go_values | go_skip | go_guarded | go_step | go_upon)
  intro w1 hown hgr
  replace hown := Lib.hid hown
  replace hgr := Lib.hid hgr
  refine wpList_as (l' := [⟨_, _, _, _, _, _⟩, ⟨_, _, _, _, _, _⟩]) rfl ?_
  go_wp2_with fail
  go_ret
  exact ⟨_, rfl, ⟨_, hown.out⟩, below_map (below_new w _) hgr.out (Nat.le_refl _)⟩

end Go.Proofs.YtfmnecknfmgggaaGreatDoor
