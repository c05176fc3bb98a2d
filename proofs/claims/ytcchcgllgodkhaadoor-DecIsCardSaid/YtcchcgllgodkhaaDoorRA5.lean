/- Layer 1, the document's answer: Sane, End. -/
import Derived.Test.YtcchcgllgodkhaaDoorRA4
namespace Go.Proofs.YtcchcgllgodkhaaDoor
open Go.RowKit Go.Lib

theorem saneL_cases (l : List UInt8) : Dec.saneL l = (decide (l.length = 0) || Dec.begL l) := rfl

/-- what Sane comes to -/
def BoolRes (q : Bool) (w : World) (e : Ending) (w' : World) : Prop := e = .returned (.bool q) ∧ Below w.heap.size w w'

set_option maxHeartbeats 400000 in
theorem rsane_any (s : ByteArray) (l : List UInt8) (hl : s.data.toList = l) (hm : l.length ≤ 1000) (w : World) :
    Calls Tryd.prog 10 #[.agg #[.string s]] w (BoolRes (Dec.saneL l) w) := by
  have hsz : s.size = l.length := by subst hl; rfl
  by_cases h0 : s.size = 0
  · have hs := empty_of_size h0
    have hres := Lib.hid (show Dec.saneL l = true by rw [saneL_cases, decide_eq_true (by omega)]; rfl)
    clear h0 hsz
    go_enter Tryd.func10, Tryd.ntmps10
    go_wp2_with fail
    go_ret
    exact ⟨ret_bool hres.out.symm, below_new _ _⟩
  · have hs := nonempty_of_size h0
    have hb := Lib.hid (rbegins_any s l hl hm)
    have hres := Lib.hid (show Dec.saneL l = Dec.begL l by rw [saneL_cases, decide_eq_false (by omega)]; rfl)
    clear h0 hsz hl hm
    go_enter Tryd.func10, Tryd.ntmps10
    go_wp2_with fail
    refine (hb.out _).mono ?_
    rintro e w1 ⟨rfl, hb1⟩
    go_wp2_with fail
    go_ret
    exact ⟨ret_bool hres.out.symm, below_in hb1⟩

/-- what a call that makes a slice of numbers comes to -/
def IntsRes (l : List Int) (w : World) (e : Ending) (w' : World) : Prop := ∃ v, e = .returned v ∧ Own w.heap.size v l w' ∧ Below w.heap.size w w'

set_option maxHeartbeats 800000 in
theorem rend_any (s : ByteArray) (l : List UInt8) (hl : s.data.toList = l) (hm : l.length ≤ 1000) (w : World) :
    Calls Tryd.prog 13 #[.agg #[.string s]] w (IntsRes (Dec.endLL l) w) := by
  have hsz : s.size = l.length := by subst hl; rfl
  have hsn := rsane_any s l hl hm
  unfold BoolRes at hsn
  cases hS : Dec.saneL l with
  | false =>
    rw [hS] at hsn
    replace hsn := Lib.hid hsn
    have hE : Hid (Dec.endLL l = []) := Lib.hid (by
      unfold Dec.endLL
      rw [if_neg]
      intro h
      rw [Dec.saneL_beg h] at hS
      cases hS)
    clear hS hsz
    go_enter Tryd.func13, Tryd.ntmps13
    go_wp2_with fail
    refine (hsn.out _).mono ?_
    rintro e w1 ⟨rfl, hb1⟩
    go_wp2_with fail
    go_ret
    exact ⟨_, rfl, by rw [hE.out]; exact own_nil _ _, below_in hb1⟩
  | true =>
    rw [hS] at hsn
    replace hsn := Lib.hid hsn
    by_cases h0 : s.size = 0
    · have hs := empty_of_size h0
      have hE : Hid (Dec.endLL l = []) := Lib.hid (by rw [List.eq_nil_of_length_eq_zero (show l.length = 0 by omega)]; rfl)
      clear hS hsz h0
      go_enter Tryd.func13, Tryd.ntmps13
      go_wp2_with fail
      refine (hsn.out _).mono ?_
      rintro e w1 ⟨rfl, hb1⟩
      obtain ⟨z0, q0, r0⟩ := box_below (box_new w (.string s) _) hb1
      replace hb1 := Lib.hid hb1
      go_wp2_with fail
      go_ret
      exact ⟨_, rfl, by rw [hE.out]; exact own_nil _ _, below_in hb1.out⟩
    · have hs := nonempty_of_size h0
      have hE : Hid (Dec.endLL l = [65533]) := Lib.hid (by
        have h1 : Dec.begL l = true := by
          rw [saneL_cases, decide_eq_false (by omega)] at hS
          exact hS
        unfold Dec.endLL
        rw [if_pos h1])
      clear hS hsz h0
      go_enter Tryd.func13, Tryd.ntmps13
      go_wp2_with fail
      refine (hsn.out _).mono ?_
      rintro e w1 ⟨rfl, hb1⟩
      obtain ⟨z0, q0, r0⟩ := box_below (box_new w (.string s) _) hb1
      replace hb1 := Lib.hid hb1
      go_wp2_with fail
      go_ret
      have hb2 := below_in hb1.out
      exact ⟨_, rfl, by rw [hE.out]; exact own_one _ _ _ hb2.size, hb2.alloc hb2.size _⟩
end Go.Proofs.YtcchcgllgodkhaaDoor
