/- Layer 10: a slice of numbers in a variable that a literal captures; Left's literal. -/
import Derived.Test.YtfmnecknfmgggaaGreatDoorFoS
import Derived.Test.YtfmnecknfmgggaaGreatDoorNoB
import Derived.Test.YtfmnecknfmgggaaGreatDoorNoS
import Derived.Test.YtfmnecknfmgggaaGreatDoorK7
import Derived.Test.YtfmnecknfmgggaaGreatDoorCnP
namespace Go.Proofs.YtfmnecknfmgggaaGreatDoor
set_option linter.unusedSimpArgs false
set_option linter.unusedVariables false
open Go.RowKit Go.Lib

/-- an own row of numbers is no block of another type -/
theorem own_offT {B b : Nat} {v : Value} {l : List Int} {w : World} {cs : Array Value} {T : TypeId} (hT : T ≠ 3) (h : OwnI B v l w) (hb : Blk w b cs T) : v.ownBlock ≠ some b := by
  intro e
  rcases h.2 with ⟨rfl, _⟩ | ⟨g, cap, cur, rfl, _, hg, _⟩
  · cases e
  · cases e
    unfold Blk at hb
    rw [hb] at hg
    injection hg with hg
    injection hg with _ hg
    exact hT hg

/-- between two worlds only block k and the row of v were written -/
def Only (k : Nat) (v : Value) (w w' : World) : Prop := Below 0 w w' ∧ ∀ j, j < w.heap.size → j ≠ k → some j ≠ v.ownBlock → w'.heap[j]? = w.heap[j]?

theorem only_below {B k : Nat} {v : Value} {l : List Int} {w0 w w1 : World} (h : Only k v w w1) (ho : OwnI B v l w) (hk : B ≤ k) (hB : B ≤ w.heap.size) (hb : Below B w0 w) : Below B w0 w1 :=
  hb.trans ⟨h.1.os, h.1.tape, h.1.output, h.1.size, fun j hj => h.2 j (by omega) (by omega) (own_not ho hj)⟩

theorem only_blk {B k j : Nat} {v : Value} {l : List Int} {cs : Array Value} {T : TypeId} {w w1 : World} (h : Only k v w w1) (hT : T ≠ 3) (ho : OwnI B v l w) (hb : Blk w j cs T) (hj : j ≠ k) : Blk w1 j cs T := by
  unfold Blk
  rw [h.2 j (blk_lt hb) hj (fun e => own_offT hT ho hb e.symm)]
  exact hb

theorem only_own {B k : Nat} {u v : Value} {m : List Int} {cs : Array Value} {T : TypeId} {w w1 : World} (h : Only k v w w1) (hu : OwnI B u m w) (hT : T ≠ 3) (hk : Blk w k cs T) (hne : u.ownBlock = none ∨ u.ownBlock ≠ v.ownBlock) : OwnI B u m w1 := by
  refine ⟨hu.1, ?_⟩
  have hoff := own_offT hT hu hk
  rcases hu.2 with hn | ⟨g, cap, cur, rfl, hg, hh, r⟩
  · exact .inl hn
  · refine .inr ⟨g, cap, cur, rfl, hg, ?_, r⟩
    rw [h.2 g (Array.getElem?_eq_some_iff.1 hh).1 (fun e => hoff (by rw [← e]; rfl)) (by simpa [Value.ownBlock] using hne)]
    exact hh

theorem lies_off {B k : Nat} {v v' : Value} {l : List Int} {w : World} (hl : Lies v' v w) (ho : OwnI B v l w) (hk : k < w.heap.size) (h : v.ownBlock ≠ some k) : v'.ownBlock ≠ some k := by
  intro e
  rcases hl with h1 | ⟨j, h1, h2⟩
  · exact h (h1 ▸ e)
  · rw [h1] at e
    cases e
    omega

/-- what the literal of Left leaves: the variable holds one number more -/
def PutL (B k : Nat) (l : List Int) (vs : Value) (w w' : World) : Prop := ∃ vt, Blk w' k #[vt] 22 ∧ OwnI B vt l w' ∧ Lies vt vs w ∧ Only k vs w w'

theorem int_ne_ints : 22 ≠ 3 := by decide

set_option maxHeartbeats 1600000 in
set_option maxRecDepth 100000 in
theorem leftPut_any (B k : Nat) (l : List Int) (r : Int) (vs : Value) (w : World) (hl : l.length ≤ 2000000) (hbox : Blk w k #[vs] 22) (hk : B ≤ k) (ho : OwnI B vs l w) :
    Calls Tryz.prog 22 #[.int .i64 r, .pointer (some ⟨k, 0, none⟩)] w fun e w' => e = .returned (.tuple #[]) ∧ PutL B k (l ++ [r]) vs w w' := by
  obtain ⟨i0, hi, hz0, hz1, hz2⟩ := info_parts info_i
  have b0 := blk_cell hbox 0 _ rfl
  have hkw := blk_lt hbox
  have hBw : B ≤ w.heap.size := by omega
  have o2 := Lib.hid (ownI_alloc ho (.cells #[.int .i64 r] 3))
  have x2 := Lib.hid (blk_alloc hbox (.cells #[.int .i64 r] 3))
  have s2 := Lib.hid (ri_src (ri_of_own (ownI_lit B w [r] #[.int .i64 r] w.heap.size 1 rfl hBw rfl rfl (by unfold maxLen; omega))))
  have hsz := Lib.hid (show B ≤ (w.alloc (.cells #[.int .i64 r] 3)).heap.size by simp; omega)
  obtain ⟨m, hm⟩ : ∃ m, l ++ [r] = m := ⟨_, rfl⟩
  rw [hm]
  replace hm := Lib.hid hm
  replace hbox := Lib.hid hbox
  replace ho := Lib.hid ho
  obtain ⟨ps, cs, rfl⟩ := ri_form (ri_of_own ho.out)
  go_enter Tryz.func22, Tryz.ntmps22
  go_wp2_with (at_builtin; refine wpList_append_src3 rfl _ _ 22 rfl B 3 i0 (.int .i64 0) 8 Tryz.underlying22 hi hz0 hz1 hz2 rfl _ _ _ rfl o2.out _ _ rfl s2.out (oneCellI [r]) (by simp; unfold maxLen; omega) (by simp; omega) hsz.out ?_; intro v5 w5 hown5 hgrow5 hlies5; have o5 := Lib.hid (ownI_of_row (l := l ++ [r]) hown5 (by simp) (by simp)); rw [hm.out] at o5; obtain ⟨p5, q5, rfl⟩ := ri_form (ri_of_own o5.out); have x5 := Lib.hid (blk_grown x2.out hgrow5 (fun e => own_offT int_ne_ints o2.out x2.out e.symm)); have c5 := blk_cell x5.out 0 _ rfl; have f5 := blk_thaw x5.out 0; replace hgrow5 := Lib.hid hgrow5; replace hlies5 := Lib.hid hlies5; clear hown5)
  go_wp2_with fail
  go_end0
  refine ⟨rfl, .slice p5 m.length q5, blk_set x5.out, ownI_set o5.out _ _ (.inr (own_offT int_ne_ints o5.out x5.out)), ?_, ?_, ?_⟩
  · rcases hlies5.out with h | ⟨j, h1, h2⟩
    · exact .inl h
    · exact .inr ⟨j, h1, by simp at h2; omega⟩
  · have hg := hgrow5.out
    exact ⟨hg.os, hg.tape, hg.output, by have := hg.size; simp at this ⊢; omega, fun j hj => by omega⟩
  · intro j hj hjk hjv
    rw [Below.heap_setCell _ _ _ _ (by exact hjk), hgrow5.out.block j (by simp; omega) hjv, Below.heap_alloc _ _ _ hj]

end Go.Proofs.YtfmnecknfmgggaaGreatDoor
