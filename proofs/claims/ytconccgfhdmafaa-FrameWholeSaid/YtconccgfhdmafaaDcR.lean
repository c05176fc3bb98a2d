/- The document's answer for layer 1's Good, Form, Text, for layers above. -/
import Derived.Test.YtconccgfhdmafaaA0
import Derived.Test.YtconccgfhdmafaaM5
import Derived.Test.YtconccgfhdmafaaMR
import Derived.Test.YtconccgfhdmafaaBasP
import Derived.Deep.LoopGhost
import Derived.Deep.DeepCutAuto
namespace Go.Proofs.Ytconccgfhdmafaa.Tx
set_option linter.unusedSimpArgs false
set_option linter.unusedVariables false
open Go.RowKit Go.Lib

set_option maxHeartbeats 400000 in
theorem rgood_any (r : Int) (w : World) :
    Calls Try.prog 38 #[.int .i64 r] w fun e w' => e = .returned (.bool (Dec.goodB r)) ∧ w = w' := by
  by_cases h0 : 0 ≤ r
  · by_cases h1 : r ≤ 1114111
    · by_cases h2 : r < 55296
      all_goals
        go_enter Try.func38, Try.ntmps38
        go_wp2
        go_ret
        exact ⟨ret_bool (by unfold Dec.goodB; grind), rfl⟩
    · go_enter Try.func38, Try.ntmps38
      go_wp2
      go_ret
      exact ⟨ret_bool (by unfold Dec.goodB; grind), rfl⟩
  · go_enter Try.func38, Try.ntmps38
    go_wp2
    go_ret
    exact ⟨ret_bool (by unfold Dec.goodB; grind), rfl⟩

/-- string(..) of a row of bytes that was just made -/
theorem run_bytes_new (l : List UInt8) (cs : Array Value) (n : Nat) (hn : n = l.length) (h : cs.toList = l.map fun c => Value.int .u8 (c.toNat : Int)) (W : World) :
    (convert 23 9 (.slice (some ⟨W.heap.size, 0, none⟩) n n)).run Try.prog (W.alloc (.cells cs 5)) = .ok (.string ⟨l.toArray⟩) (W.alloc (.cells cs 5)) := by
  subst hn
  refine run_convert_bytes_back (P := Try.prog) _ 23 9 5 ⟨W.heap.size, 0, none⟩ l.length l Try.underlying23 Try.underlying5 Try.underlying9 ?_
  intro j hj
  have hadd : (⟨W.heap.size, 0, none⟩ : Addr).add j = ⟨W.heap.size, j, none⟩ := by unfold Addr.add; split <;> simp_all
  rw [hadd]
  have e : cs[j]? = some (.int .u8 (l[j].toNat : Int)) := by
    rw [← Array.getElem?_toList, h, List.getElem?_map, List.getElem?_eq_getElem hj]
    rfl
  simpa using e

/-- what Form comes to -/
def FormRes (r : Int) (w : World) (e : Ending) (w' : World) : Prop := e = .returned (.string ⟨(Lib.encodeRune r).toArray⟩) ∧ Below w.heap.size w w'

set_option maxHeartbeats 1600000 in
theorem form_any (r : Int) (hg : Dec.goodB r = true) (w : World) :
    Calls Try.prog 39 #[.int .i64 r] w (FormRes r w) := by
  have hg' := (Dec.goodB_iff r).1 hg
  obtain ⟨n, rfl⟩ := Int.eq_ofNat_of_zero_le hg'.1
  rcases (by omega : n ≤ 127 ∨ (128 ≤ n ∧ n ≤ 2047) ∨ ((2048 ≤ n ∧ n < 55296) ∨ (57343 < n ∧ n ≤ 65535)) ∨ (65536 ≤ n ∧ n ≤ 1114111)) with h | h | h | h
  · obtain ⟨a, e, h1⟩ := Dec.enc1 n h
    have hcv := fun W => run_bytes_new [a] #[.int .u8 (n : Int)] 1 rfl (by rw [← h1]; rfl) W
    replace e := Lib.hid e
    have t1 : (n : Int) < 128 := by omega
    clear h hg hg' h1
    go_enter Try.func39, Try.ntmps39
    go_wp2_with fail
    go_ret
    exact ⟨by rw [e.out]; rfl, below_new _ _⟩
  · obtain ⟨a, b, e, h1, h2⟩ := Dec.enc2 n h
    have hcv := fun W => run_bytes_new [a, b] #[.int .u8 (192 + (n : Int) / 64), .int .u8 (128 + (n : Int) % 64)] 2 rfl (by rw [show 192 + (n : Int) / 64 = (a.toNat : Int) by omega, show 128 + (n : Int) % 64 = (b.toNat : Int) by omega]; rfl) W
    replace e := Lib.hid e
    have t1 : decide ((n : Int) < 128) = false := by simp; omega
    have t2 : (n : Int) < 2048 := by omega
    have t3 : (128 : Int) ≤ (n : Int) := by omega
    clear h hg hg' h1 h2
    go_enter Try.func39, Try.ntmps39
    go_wp2_with fail
    go_ret
    exact ⟨by rw [e.out]; rfl, below_new _ _⟩
  · obtain ⟨a, b, c, e, h1, h2, h3⟩ := Dec.enc3 n h
    have hcv := fun W => run_bytes_new [a, b, c] #[.int .u8 (224 + (n : Int) / 4096), .int .u8 (128 + (n : Int) / 64 % 64), .int .u8 (128 + (n : Int) % 64)] 3 rfl (by rw [show 224 + (n : Int) / 4096 = (a.toNat : Int) by omega, show 128 + (n : Int) / 64 % 64 = (b.toNat : Int) by omega, show 128 + (n : Int) % 64 = (c.toNat : Int) by omega]; rfl) W
    replace e := Lib.hid e
    have t1 : decide ((n : Int) < 128) = false := by simp; omega
    have t2 : decide ((n : Int) < 2048) = false := by simp; omega
    have t4 : (n : Int) < 65536 := by omega
    have t3 : (2048 : Int) ≤ (n : Int) := by omega
    clear h hg hg' h1 h2 h3
    go_enter Try.func39, Try.ntmps39
    go_wp2_with fail
    go_ret
    exact ⟨by rw [e.out]; rfl, below_new _ _⟩
  · obtain ⟨a, b, c, d, e, h1, h2, h3, h4⟩ := Dec.enc4 n h
    have hcv := fun W => run_bytes_new [a, b, c, d] #[.int .u8 (240 + (n : Int) / 262144), .int .u8 (128 + (n : Int) / 4096 % 64), .int .u8 (128 + (n : Int) / 64 % 64), .int .u8 (128 + (n : Int) % 64)] 4 rfl (by rw [show 240 + (n : Int) / 262144 = (a.toNat : Int) by omega, show 128 + (n : Int) / 4096 % 64 = (b.toNat : Int) by omega, show 128 + (n : Int) / 64 % 64 = (c.toNat : Int) by omega, show 128 + (n : Int) % 64 = (d.toNat : Int) by omega]; rfl) W
    replace e := Lib.hid e
    have t1 : decide ((n : Int) < 128) = false := by simp; omega
    have t2 : decide ((n : Int) < 2048) = false := by simp; omega
    have t4 : decide ((n : Int) < 65536) = false := by simp; omega
    have t3 : (65536 : Int) ≤ (n : Int) := by omega
    have t5 : (n : Int) ≤ 1114111 := by omega
    clear h hg hg' h1 h2 h3 h4
    go_enter Try.func39, Try.ntmps39
    go_wp2_with fail
    go_ret
    exact ⟨by rw [e.out]; rfl, below_new _ _⟩

/-- what a call that makes a text comes to -/
def TextRes (l : List UInt8) (w : World) (e : Ending) (w' : World) : Prop := e = .returned (.string ⟨l.toArray⟩) ∧ Below w.heap.size w w'

theorem text_next {l : List Int} {k : Nat} {x : Int} {S B : ByteArray} (hk : k < l.length) (hx : l[k] = x) (hS : S.data.toList = Dec.textL (l.take k)) (hB : B.data.toList = Lib.encodeRune (Dec.fix x)) : (S ++ B).data.toList = Dec.textL (l.take (k + 1)) := by
  rw [List.take_succ_eq_append_getElem hk, Dec.textL_snoc, hx, ← hS, ← hB]
  simp

set_option maxHeartbeats 1600000 in
theorem rtext_any (v0 : Value) (l : List Int) (w : World) (hlen : l.length ≤ 1000) (hr : RI w v0 l) :
    Calls Try.prog 26 #[v0] w (TextRes (Dec.textL l) w) := by
  obtain ⟨p, cap, rfl⟩ := ri_form hr
  have hp := Lib.hid (ri_at hr)
  replace hr := Lib.hid hr
  go_enter Try.func26, Try.ntmps26
  go_wp2_with fail
  go_loopg [3, 4] l.length (fun g v i wr => ∃ k : Nat, k ≤ l.length ∧ g = l.length - k ∧ i = .int .i64 k ∧ ∃ S : ByteArray, v = .string S ∧ Hid (S.data.toList = Dec.textL (l.take k)) ∧ Below w.heap.size w wr)
  case atStart => exact ⟨0, Nat.zero_le _, rfl, rfl, ⟨#[]⟩, rfl, Lib.hid rfl, Below.refl _ _⟩
  case round =>
    obtain ⟨k, hk, rfl, rfl, S, rfl, hS, hbel⟩ := hrel
    have hSs : S.size ≤ 4000 := by
      have h1 := Dec.textL_len (l.take k)
      rw [← hS.out] at h1
      have h2 : S.size = S.data.toList.length := rfl
      have h3 : (l.take k).length ≤ k := List.length_take_le _ _
      omega
    by_cases hlt : k < l.length
    · obtain ⟨x, hx⟩ : ∃ x, l[k] = x := ⟨_, rfl⟩
      obtain ⟨b, off, rfl, hb, hc⟩ := hp.out (by omega)
      have hcell : wr.cell? ⟨b, off + k, none⟩ = some (.int .i64 x) := by
        rw [hbel.cell hb, ← hx]
        exact hc k hlt
      clear hc
      replace hx := Lib.hid hx
      have hgood := rgood_any x wr
      have hform := form_any (Dec.fix x) (Dec.good_fix x)
      obtain ⟨B, hB⟩ : ∃ B : ByteArray, (⟨(Lib.encodeRune (Dec.fix x)).toArray⟩ : ByteArray) = B := ⟨_, rfl⟩
      have hF : Hid (B.data.toList = Lib.encodeRune (Dec.fix x)) := Lib.hid (by rw [← hB])
      have hBs : B.size ≤ 4 := by rw [← hB]; exact Dec.encodeRune_len _
      unfold FormRes at hform
      rw [hB] at hform
      clear hB
      replace hbel := Lib.hid hbel
      cases hG : Dec.goodB x with
      | true =>
        rw [hG] at hgood
        rw [Dec.fix_good hG] at hform
        replace hgood := Lib.hid hgood
        replace hform := Lib.hid hform
        clear hG
        go_wp2_with fail
        refine hgood.out.mono ?_
        rintro e w1 ⟨rfl, rfl⟩
        go_wp2_with fail
        refine (hform.out _).mono ?_
        rintro e w2 ⟨rfl, hb2⟩
        replace hb2 := Lib.hid (hbel.out.trans (hb2.mono hbel.out.size))
        go_wp2_with fail
        go_roundg (l.length - (k + 1))
        case measure => omega
        case rel => exact ⟨k + 1, by omega, rfl, by go_num, _, rfl, Lib.hid (text_next hlt hx.out hS.out hF.out), hb2.out⟩
      | false =>
        rw [hG] at hgood
        have hfx : Dec.fix x = 65533 := by unfold Dec.fix; rw [hG]; rfl
        rw [hfx] at hform
        replace hgood := Lib.hid hgood
        replace hform := Lib.hid hform
        clear hG hfx
        go_wp2_with fail
        refine hgood.out.mono ?_
        rintro e w1 ⟨rfl, rfl⟩
        go_wp2_with fail
        refine (hform.out _).mono ?_
        rintro e w2 ⟨rfl, hb2⟩
        replace hb2 := Lib.hid (hbel.out.trans (hb2.mono hbel.out.size))
        go_wp2_with fail
        go_roundg (l.length - (k + 1))
        case measure => omega
        case rel => exact ⟨k + 1, by omega, rfl, by go_num, _, rfl, Lib.hid (text_next hlt hx.out hS.out hF.out), hb2.out⟩
    · have hfin : Hid (S = ⟨(Dec.textL l).toArray⟩) := Lib.hid (by
        have h := hS.out
        rw [List.take_of_length_le (by omega)] at h
        rw [← h])
      replace hbel := Lib.hid hbel
      go_wp2_with fail
      go_ret
      exact ⟨by rw [← hfin.out]; rfl, hbel.out⟩

end Go.Proofs.Ytconccgfhdmafaa.Tx
