/- []byte(s): what it makes, over G1's slices of bytes. -/
import Derived.Test.YtnlnkjaapdefiaaGreatDoorG1
import Derived.Lib.ConvBytes
namespace Go.Proofs.YtnlnkjaapdefiaaGreatDoor
set_option linter.unusedSimpArgs false
set_option linter.unusedVariables false
open Go.RowKit Go.Lib
/-- what []byte(s) makes -/
def capB (W : World) (s : ByteArray) : Nat := grownCap W s.size 0 5
def worldB (W : World) (s : ByteArray) : World := Lib.bytesWorld W 5 s
theorem run_toBytes (s : ByteArray) (W : World) : (convert 9 22 (.string s)).run Tryz.prog W = .ok (.slice (some ⟨W.heap.size, 0, none⟩) s.size (capB W s)) (worldB W s) :=
  Lib.run_convert_string_bytes (P := Tryz.prog) W 9 22 5 s Tryz.underlying9 Tryz.underlying22 Tryz.underlying5
theorem worldB_below (W : World) (s : ByteArray) : Below W.heap.size W (worldB W s) := by
  refine ⟨rfl, rfl, rfl, ?_, fun k hk => Lib.bytesWorld_at_old W _ s k hk⟩
  have := Lib.bytesWorld_size W 5 s
  show W.heap.size ≤ (Lib.bytesWorld W 5 s).heap.size
  omega
theorem worldB_reads (W : World) (s : ByteArray) : RBytes (worldB W s) (.slice (some ⟨W.heap.size, 0, none⟩) s.size (capB W s)) s.data.toList := by
  have e : s.data.toList.length = s.size := by simp
  refine .inr ⟨⟨W.heap.size, 0, none⟩, capB W s, ?_, ?_, fun _ => ⟨W.heap.size, 0, rfl, ?_, fun i hi => ?_⟩⟩
  · rw [e]
  · rw [e]; exact grownCap_ge W s.size 0 5
  · have := Lib.bytesWorld_size W 5 s
    show W.heap.size < (Lib.bytesWorld W 5 s).heap.size
    omega
  · have h := Lib.bytesWorld_cell W 5 s i (by simpa using hi)
    rw [Nat.zero_add]
    refine h.trans ?_
    rw [List.getD_eq_getElem?_getD, List.getElem?_eq_getElem hi]
    rfl
end Go.Proofs.YtnlnkjaapdefiaaGreatDoor
