/- Layer 10: cut, its literal over Left's, Left. -/
import Derived.Test.YtfmnecknfmgggaaGreatDoorFoA1
import Derived.Test.YtfmnecknfmgggaaGreatDoorPrA4
import Derived.Test.YtfmnecknfmgggaaGreatDoorCaA4
namespace Go.Proofs.YtfmnecknfmgggaaGreatDoor
set_option linter.unusedSimpArgs false
set_option linter.unusedVariables false
open Go.RowKit Go.Lib

theorem only_after {k : Nat} {v : Value} {w w2 w3 : World} (hb : Below w.heap.size w w2) (h : Only k v w2 w3) : Only k v w w3 :=
  ⟨(hb.mono (Nat.zero_le _)).trans h.1, fun j hj h1 h2 => (h.2 j (Nat.lt_of_lt_of_le hj hb.size) h1 h2).trans (hb.block j hj)⟩
theorem lies_after {v v' : Value} {w w2 : World} (hb : Below w.heap.size w w2) (h : Lies v' v w2) : Lies v' v w :=
  h.imp id fun ⟨j, h1, h2⟩ => ⟨j, h1, Nat.le_trans hb.size h2⟩
theorem only_self {k : Nat} {v : Value} {w w2 : World} (hb : Below w.heap.size w w2) : Only k v w w2 := ⟨hb.mono (Nat.zero_le _), fun j hj _ _ => hb.block j hj⟩

theorem putL_after {B k : Nat} {l : List Int} {vs : Value} {w w2 w3 : World} (hb : Below w.heap.size w w2) (h : PutL B k l vs w2 w3) : PutL B k l vs w w3 := by
  obtain ⟨vt, h1, h2, h3, h4⟩ := h
  exact ⟨vt, h1, h2, lies_after hb h3, only_after hb h4⟩

set_option maxHeartbeats 1600000 in
set_option maxRecDepth 100000 in
theorem leftCut_any (k : Nat) (w : World) : Calls Tryz.prog 16 #[.func (.func 22) #[] #[.pointer (some ⟨k, 0, none⟩)]] w fun e w' =>
    e = .returned (.func (.func 31) #[] #[.pointer (some ⟨w.heap.size, 0, none⟩)]) ∧ w' = w.alloc (.cells #[.func (.func 22) #[] #[.pointer (some ⟨k, 0, none⟩)]] 36) := by
  have hmf : ∀ (fn : Fn) (first cap : Array Value) (w : World), (Instr.makeFunc fn first cap).run Tryz.prog w = .ok (.func fn first cap) w := fun _ _ _ _ => rfl
  go_enter Tryz.func16, Tryz.ntmps16
  go_wp2_with fail
  go_ret
  exact ⟨rfl, rfl⟩

set_option maxHeartbeats 1600000 in
set_option maxRecDepth 100000 in
theorem leftTake_any (B C k : Nat) (l : List Int) (r : Int) (vs : Value) (w : World) (hl : l.length ≤ 2000000) (hbox : Blk w k #[vs] 22) (hk : B ≤ k) (ho : OwnI B vs l w)
    (hC : Blk w C #[.func (.func 22) #[] #[.pointer (some ⟨k, 0, none⟩)]] 36) :
    Calls Tryz.prog 31 #[.int .i64 r, .pointer (some ⟨C, 0, none⟩)] w fun e w' => e = .returned (.tuple #[]) ∧ PutL B k (l ++ if Prp.drpB r = true then [] else [r]) vs w w' := by
  have hdx := drops_any r
  cases hdb : Prp.drpB r with
  | true =>
    rw [hdb] at hdx
    rw [if_pos rfl, List.append_nil]
    replace hdx := Lib.hid hdx
    replace hbox := Lib.hid hbox
    replace ho := Lib.hid ho
    replace hC := Lib.hid hC
    clear hdb
    go_enter Tryz.func31, Tryz.ntmps31
    go_wp2_with fail
    refine (hdx.out _).mono ?_
    rintro e w2 ⟨rfl, hb2⟩
    replace hb2 := Lib.hid hb2
    go_wp2_with fail
    go_end0
    exact ⟨rfl, vs, blk_below hbox.out hb2.out, ownI_below ho.out hb2.out, .inl rfl, only_self hb2.out⟩
  | false =>
    rw [hdb] at hdx
    rw [if_neg (by simp)]
    replace hdx := Lib.hid hdx
    replace hbox := Lib.hid hbox
    replace ho := Lib.hid ho
    replace hC := Lib.hid hC
    clear hdb
    go_enter Tryz.func31, Tryz.ntmps31
    go_wp2_with fail
    refine (hdx.out _).mono ?_
    rintro e w2 ⟨rfl, hb2⟩
    have c2 := blk_cell (blk_below hC.out hb2) 0 _ rfl
    have hput := Lib.hid (leftPut_any B k l r vs w2 hl (blk_below hbox.out hb2) hk (ownI_below ho.out hb2))
    replace hb2 := Lib.hid hb2
    go_wp2_with fail
    refine hput.out.mono ?_
    rintro e w3 ⟨rfl, hp3⟩
    replace hp3 := Lib.hid hp3
    go_wp2_with fail
    go_end0
    exact ⟨rfl, putL_after hb2.out hp3.out⟩

end Go.Proofs.YtfmnecknfmgggaaGreatDoor
