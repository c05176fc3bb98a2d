/- Layer 3: the walks of PropMarks, PropBounds. -/
import Derived.Test.YtccjabckojkomaaPrW0
import Derived.Test.YtccjabckojkomaaA0
namespace Go.Proofs.Ytccjabckojkomaa
open Go.RowKit Go.Lib

set_option maxHeartbeats 800000 in
theorem propMarks_walk (r : Int) (w : World) (_ : -9223372036854775808 ≤ r ∧ r ≤ 9223372036854775807) :
    Calls Try.prog 7 #[.int .i64 r] w fun e w' => e = .returned (.bool true) ∧ Below w.heap.size w w' := by
  have hmd := Prp.mark_drop r
  obtain ⟨d, hd⟩ : ∃ d, Prp.drpB r = d := ⟨_, rfl⟩
  have hdr := Lib.hid (drops_is r d hd)
  rw [hd] at hmd
  clear hd
  cases hm : Prp.mrkB r with
  | true =>
    obtain rfl : d = false := by cases d <;> simp_all
    have hmk := Lib.hid (mark_is r true hm)
    clear hm hmd
    go_enter Try.func7, Try.ntmps7
    go_wp2_with fail
    refine (awake_any w).mono ?_
    rintro e w1 ⟨rfl, hb1⟩
    replace hb1 := Lib.hid hb1
    go_wp2_with fail
    refine (hmk.out _).mono ?_
    rintro e w2 ⟨rfl, hb2⟩
    replace hb2 := Lib.hid (below_trans hb1.out hb2)
    go_wp2_with fail
    refine (hdr.out _).mono ?_
    rintro e w3 ⟨rfl, hb3⟩
    replace hb3 := Lib.hid (below_trans hb2.out hb3)
    go_wp2_with fail
    refine (mark_is 847 false (by decide +kernel) _).mono ?_
    rintro e w4 ⟨rfl, hb4⟩
    replace hb4 := Lib.hid (below_trans hb3.out hb4)
    go_wp2_with fail
    refine (drops_is 847 true (by decide +kernel) _).mono ?_
    rintro e w5 ⟨rfl, hb5⟩
    replace hb5 := Lib.hid (below_trans hb4.out hb5)
    go_wp2_with fail
    refine (gcb_is 847 4 (by decide +kernel) _).mono ?_
    rintro e w6 ⟨rfl, hb6⟩
    replace hb6 := Lib.hid (below_trans hb5.out hb6)
    go_wp2_with fail
    go_ret
    exact ⟨rfl, hb6.out⟩
  | false =>
    have hmk := Lib.hid (mark_is r false hm)
    clear hm hmd
    go_enter Try.func7, Try.ntmps7
    go_wp2_with fail
    refine (awake_any w).mono ?_
    rintro e w1 ⟨rfl, hb1⟩
    replace hb1 := Lib.hid hb1
    go_wp2_with fail
    refine (hmk.out _).mono ?_
    rintro e w2 ⟨rfl, hb2⟩
    replace hb3 := Lib.hid (below_trans hb1.out hb2)
    go_wp2_with fail
    refine (mark_is 847 false (by decide +kernel) _).mono ?_
    rintro e w4 ⟨rfl, hb4⟩
    replace hb4 := Lib.hid (below_trans hb3.out hb4)
    go_wp2_with fail
    refine (drops_is 847 true (by decide +kernel) _).mono ?_
    rintro e w5 ⟨rfl, hb5⟩
    replace hb5 := Lib.hid (below_trans hb4.out hb5)
    go_wp2_with fail
    refine (gcb_is 847 4 (by decide +kernel) _).mono ?_
    rintro e w6 ⟨rfl, hb6⟩
    replace hb6 := Lib.hid (below_trans hb5.out hb6)
    go_wp2_with fail
    go_ret
    exact ⟨rfl, hb6.out⟩

theorem mrk_of (r : Int) : Prp.mrkB r = decide (0 < Prp.cccI r) := rfl

theorem good_no {r : Int} (h : Dec.goodB r = false) : r < 0 ∨ (0xD800 ≤ r ∧ r ≤ 0xDFFF) ∨ 0x10FFFF < r := by
  unfold Dec.goodB at h
  simp at h
  omega

set_option maxHeartbeats 1600000 in
theorem propBounds_walk (r : Int) (w : World) (_ : -9223372036854775808 ≤ r ∧ r ≤ 9223372036854775807) :
    Calls Try.prog 4 #[.int .i64 r] w fun e w' => e = .returned (.bool true) ∧ Below w.heap.size w w' := by
  have hgood := good_any r
  cases hG : Dec.goodB r with
  | false =>
    obtain ⟨h1, h2, h3⟩ := Prp.bad_none (good_no hG)
    rw [hG] at hgood
    replace hgood := Lib.hid hgood
    have hc := Lib.hid (ccc_is r 0 h1)
    have hg := Lib.hid (gcb_is r 0 h2)
    have hd := Lib.hid (drops_is r false h3)
    have hm := Lib.hid (mark_is r false (by rw [mrk_of, h1]; rfl))
    clear h1 h2 h3 hG
    go_enter Try.func4, Try.ntmps4
    go_wp2_with fail
    refine (awake_any w).mono ?_
    rintro e w1 ⟨rfl, hb1⟩
    replace hb1 := Lib.hid hb1
    go_wp2_with fail
    refine (hc.out _).mono ?_
    rintro e w2 ⟨rfl, hb2⟩
    replace hb2 := Lib.hid (below_trans hb1.out hb2)
    go_wp2_with fail
    refine (hg.out _).mono ?_
    rintro e w3 ⟨rfl, hb3⟩
    replace hb3 := Lib.hid (below_trans hb2.out hb3)
    go_wp2_with fail
    refine (hgood.out _).mono ?_
    rintro e w4 ⟨rfl, rfl⟩
    go_wp2_with fail
    refine (hd.out _).mono ?_
    rintro e w5 ⟨rfl, hb5⟩
    replace hb5 := Lib.hid (below_trans hb3.out hb5)
    go_wp2_with fail
    refine (hm.out _).mono ?_
    rintro e w6 ⟨rfl, hb6⟩
    replace hb6 := Lib.hid (below_trans hb5.out hb6)
    go_wp2_with fail
    go_ret
    exact ⟨rfl, hb6.out⟩
  | true =>
    rw [hG] at hgood
    replace hgood := Lib.hid hgood
    have b1 := Prp.ccc_bounds r
    have b2 := Prp.gcb_bounds r
    have hc := ccc_any r
    have hg := gcb_any r
    have hm := mark_any r
    have hck := Prp.ccc_gcb (r := r)
    rw [mrk_of] at hm
    obtain ⟨c, hc'⟩ : ∃ c, Prp.cccI r = c := ⟨_, rfl⟩
    obtain ⟨k, hk'⟩ : ∃ k, Prp.gcbI r = k := ⟨_, rfl⟩
    rw [hc'] at hc hm hck b1
    rw [hk'] at hg hck b2
    replace hc := Lib.hid hc
    replace hg := Lib.hid hg
    clear hc' hk' hG
    obtain ⟨b1l, b1h⟩ := b1
    obtain ⟨b2l, b2h⟩ := b2
    by_cases h0 : c = 0
    · subst h0
      rw [show decide ((0 : Int) < 0) = false from rfl] at hm
      replace hm := Lib.hid hm
      clear hck
      go_enter Try.func4, Try.ntmps4
      go_wp2_with fail
      refine (awake_any w).mono ?_
      rintro e w1 ⟨rfl, hb1⟩
      replace hb1 := Lib.hid hb1
      go_wp2_with fail
      refine (hc.out _).mono ?_
      rintro e w2 ⟨rfl, hb2⟩
      replace hb2 := Lib.hid (below_trans hb1.out hb2)
      go_wp2_with fail
      refine (hg.out _).mono ?_
      rintro e w3 ⟨rfl, hb3⟩
      replace hb3 := Lib.hid (below_trans hb2.out hb3)
      go_wp2_with fail
      refine (hgood.out _).mono ?_
      rintro e w4 ⟨rfl, rfl⟩
      go_wp2_with fail
      refine (hm.out _).mono ?_
      rintro e w6 ⟨rfl, hb6⟩
      replace hb6 := Lib.hid (below_trans hb3.out hb6)
      go_wp2_with fail
      go_ret
      exact ⟨rfl, hb6.out⟩
    · obtain rfl : k = 4 := hck h0
      have hpos : 0 < c := by omega
      rw [show decide ((0 : Int) < c) = true from decide_eq_true hpos] at hm
      have h0' : (c == 0) = false := by simpa using h0
      replace hm := Lib.hid hm
      clear hck h0
      go_enter Try.func4, Try.ntmps4
      go_wp2_with fail
      refine (awake_any w).mono ?_
      rintro e w1 ⟨rfl, hb1⟩
      replace hb1 := Lib.hid hb1
      go_wp2_with fail
      refine (hc.out _).mono ?_
      rintro e w2 ⟨rfl, hb2⟩
      replace hb2 := Lib.hid (below_trans hb1.out hb2)
      go_wp2_with fail
      refine (hg.out _).mono ?_
      rintro e w3 ⟨rfl, hb3⟩
      replace hb3 := Lib.hid (below_trans hb2.out hb3)
      go_wp2_with fail
      refine (hgood.out _).mono ?_
      rintro e w4 ⟨rfl, rfl⟩
      go_wp2_with fail
      refine (hm.out _).mono ?_
      rintro e w6 ⟨rfl, hb6⟩
      replace hb6 := Lib.hid (below_trans hb3.out hb6)
      go_wp2_with fail
      go_ret
      exact ⟨rfl, hb6.out⟩
end Go.Proofs.Ytccjabckojkomaa
