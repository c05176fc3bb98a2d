/- Layer 1, the document's answer: Text. -/
import Derived.Test.YtcchcgllgodkhaaDoorRA7
namespace Go.Proofs.YtcchcgllgodkhaaDoor
open Go.RowKit Go.Lib

/-- what a call that makes a text comes to -/
def TextRes (l : List UInt8) (w : World) (e : Ending) (w' : World) : Prop := e = .returned (.string ⟨l.toArray⟩) ∧ Below w.heap.size w w'

theorem text_next {l : List Int} {k : Nat} {x : Int} {S B : ByteArray} (hk : k < l.length) (hx : l[k] = x) (hS : S.data.toList = Dec.textL (l.take k)) (hB : B.data.toList = Lib.encodeRune (Dec.fix x)) : (S ++ B).data.toList = Dec.textL (l.take (k + 1)) := by
  rw [List.take_succ_eq_append_getElem hk, Dec.textL_snoc, hx, ← hS, ← hB]
  simp

set_option maxHeartbeats 1600000 in
theorem rtext_any (v0 : Value) (l : List Int) (w : World) (hlen : l.length ≤ 1000) (hr : RInts w v0 l) :
    Calls Tryd.prog 17 #[v0] w (TextRes (Dec.textL l) w) := by
  obtain ⟨p, cap, rfl⟩ := ints_form hr
  have hp := Lib.hid (ints_at hr)
  replace hr := Lib.hid hr
  go_enter Tryd.func17, Tryd.ntmps17
  go_wp2_with fail
  go_loopg [3, 4] l.length (fun g v i wr => ∃ k : Nat, k ≤ l.length ∧ g = l.length - k ∧ i = .int .i64 k ∧ ∃ S : ByteArray, v = .string S ∧ Hid (S.data.toList = Dec.textL (l.take k)) ∧ Below w.heap.size w wr)
  case atStart => exact ⟨0, Nat.zero_le _, rfl, rfl, ⟨#[]⟩, rfl, Lib.hid rfl, Below.refl _ _⟩
  case round =>
    obtain ⟨k, hk, rfl, rfl, S, rfl, hS, hbel⟩ := hrel
    have hSs : S.size ≤ 4000 := by
      have h1 := Dec.textL_len (l.take k)
      rw [← hS.out] at h1
      have h2 : S.size = S.data.toList.length := rfl
      have h3 : (l.take k).length ≤ k := List.length_take_le _ _
      omega
    by_cases hlt : k < l.length
    · obtain ⟨x, hx⟩ : ∃ x, l[k] = x := ⟨_, rfl⟩
      obtain ⟨b, off, rfl, hb, hc⟩ := hp.out (by omega)
      have hcell : wr.cell? ⟨b, off + k, none⟩ = some (.int .i64 x) := by
        rw [hbel.cell hb, ← hx]
        exact hc k hlt
      clear hc
      replace hx := Lib.hid hx
      have hgood := rgood_any x wr
      have hform := form_any (Dec.fix x) (Dec.good_fix x)
      obtain ⟨B, hB⟩ : ∃ B : ByteArray, (⟨(Lib.encodeRune (Dec.fix x)).toArray⟩ : ByteArray) = B := ⟨_, rfl⟩
      have hF : Hid (B.data.toList = Lib.encodeRune (Dec.fix x)) := Lib.hid (by rw [← hB])
      have hBs : B.size ≤ 4 := by rw [← hB]; exact Dec.encodeRune_len _
      unfold FormRes at hform
      rw [hB] at hform
      clear hB
      replace hbel := Lib.hid hbel
      cases hG : Dec.goodB x with
      | true =>
        rw [hG] at hgood
        rw [Dec.fix_good hG] at hform
        replace hgood := Lib.hid hgood
        replace hform := Lib.hid hform
        clear hG
        go_wp2_with fail
        refine hgood.out.mono ?_
        rintro e w1 ⟨rfl, rfl⟩
        go_wp2_with fail
        refine (hform.out _).mono ?_
        rintro e w2 ⟨rfl, hb2⟩
        replace hb2 := Lib.hid (hbel.out.trans (hb2.mono hbel.out.size))
        go_wp2_with fail
        go_roundg (l.length - (k + 1))
        case measure => omega
        case rel => exact ⟨k + 1, by omega, rfl, by go_num, _, rfl, Lib.hid (text_next hlt hx.out hS.out hF.out), hb2.out⟩
      | false =>
        rw [hG] at hgood
        have hfx : Dec.fix x = 65533 := by unfold Dec.fix; rw [hG]; rfl
        rw [hfx] at hform
        replace hgood := Lib.hid hgood
        replace hform := Lib.hid hform
        clear hG hfx
        go_wp2_with fail
        refine hgood.out.mono ?_
        rintro e w1 ⟨rfl, rfl⟩
        go_wp2_with fail
        refine (hform.out _).mono ?_
        rintro e w2 ⟨rfl, hb2⟩
        replace hb2 := Lib.hid (hbel.out.trans (hb2.mono hbel.out.size))
        go_wp2_with fail
        go_roundg (l.length - (k + 1))
        case measure => omega
        case rel => exact ⟨k + 1, by omega, rfl, by go_num, _, rfl, Lib.hid (text_next hlt hx.out hS.out hF.out), hb2.out⟩
    · have hfin : Hid (S = ⟨(Dec.textL l).toArray⟩) := Lib.hid (by
        have h := hS.out
        rw [List.take_of_length_le (by omega)] at h
        rw [← h])
      replace hbel := Lib.hid hbel
      go_wp2_with fail
      go_ret
      exact ⟨by rw [← hfin.out]; rfl, hbel.out⟩
end Go.Proofs.YtcchcgllgodkhaaDoor
