/- Layer 13: the code's Put, Refusal, span, Take. -/
import Derived.Test.YtconccgfhdmafaaFrA1
import Derived.Test.YtconccgfhdmafaaC2
import Derived.Test.YtconccgfhdmafaaDcT
namespace Go.Proofs.Ytconccgfhdmafaa
set_option linter.unusedSimpArgs false
set_option linter.unusedVariables false
open Go.RowKit Go.Lib

theorem sr_one (w : World) (t : List UInt8) : SR (w.alloc (.cells #[strV t] 9)) (.slice (some ⟨w.heap.size, 0, none⟩) 1 1) [t] := by
  refine .inr ⟨_, 1, rfl, Nat.le_refl _, fun _ => ⟨_, 0, rfl, by simp, fun i hi => ?_⟩⟩
  obtain rfl : i = 0 := by simpa using hi
  exact blk_cell (blk_new w _ _) 0 _ rfl

set_option maxHeartbeats 1600000 in
set_option maxRecDepth 100000 in
theorem put13_any (v : Value) (c : List Int) (w : World) (hl : c.length ≤ 1000) (hv : RI w v c) : Calls Try.prog 13 #[v] w (ToldB (Frm.putF c) w) := by
  have htext := Lib.hid (Tx.text_any v c w (by omega) hv)
  obtain ⟨p, cap, rfl⟩ := ri_form hv
  have hlen := Dec.textL_len c
  by_cases h0 : c.length = 0
  · have hp : Frm.putF c = [] := by unfold Frm.putF; rw [if_pos (.inl (List.eq_nil_of_length_eq_zero h0))]
    rw [hp]
    have h1 : ((c.length : Int) == 0) = true := beq_iff_eq.2 (by omega)
    replace h0 := Lib.hid h0
    go_enter Try.func13, Try.ntmps13
    go_wp2_with fail
    go_ret
    exact ⟨_, rfl, .inl ⟨rfl, rfl⟩, Below.refl _ _⟩
  · have hne : c ≠ [] := fun e => h0 (by rw [e]; rfl)
    obtain ⟨hp, hbig⟩ := Frm.putF_some hne (by omega)
    rw [hp]
    have h1 : ((c.length : Int) == 0) = false := beq_eq_false_iff_ne.2 (by omega)
    obtain ⟨T, hT⟩ : ∃ T, Dec.textL c = T := ⟨_, rfl⟩
    rw [hT] at htext hlen ⊢
    replace htext := Lib.hid htext
    clear hT h0 hp hne hbig hv
    go_enter Try.func13, Try.ntmps13
    go_wp2_with fail
    refine htext.out.out.mono ?_
    rintro e w1 ⟨rfl, q1⟩
    have hs := Lib.hid (sr_one w1 T)
    have b1 := Lib.hid (q1.alloc q1.size (.cells #[strV T] 9))
    clear q1
    unfold strV at hs b1
    go_wp2_with fail
    refine (framed13_any _ [T] _ (by simp) (by simp; omega) hs.out).mono ?_
    rintro e w2 ⟨v2, rfl, o2, q2⟩
    have e2 : [T].flatten = T := by simp
    rw [e2] at o2
    replace o2 := Lib.hid o2
    replace q2 := Lib.hid q2
    clear e2
    go_wp2_with fail
    go_ret
    exact ⟨_, rfl, bytes_of_own o2.out, b1.out.trans (q2.out.mono b1.out.size)⟩

set_option maxHeartbeats 1600000 in
set_option maxRecDepth 100000 in
theorem refusal13_any (w : World) : Calls Try.prog 15 #[] w (ToldB [0] w) := by
  have hf := framed13_any (.slice none 0 0) [] w (by simp) (by simp) (.inl ⟨rfl, rfl⟩)
  have e0 : Frm.frameOf ([] : List (List UInt8)).flatten = [0] := by
    unfold Frm.frameOf
    simp
    rw [Var.putN_small (by simp)]
    rfl
  rw [e0] at hf
  replace hf := Lib.hid hf
  go_enter Try.func15, Try.ntmps15
  go_wp2_with fail
  refine hf.out.mono ?_
  rintro e w2 ⟨v2, rfl, o2, q2⟩
  replace o2 := Lib.hid o2
  replace q2 := Lib.hid q2
  go_wp2_with fail
  go_ret
  exact ⟨_, rfl, bytes_of_own o2.out, q2.out⟩

/-- from where and up to where the text stands -/
def SpanR (b : List UInt8) (w : World) (e : Ending) (w' : World) : Prop := ∃ (f m : Nat) (c : Int), e = .returned (.tuple #[.int .i64 f, .int .i64 ((f : Int) + m), .int .i64 c]) ∧ w = w' ∧ f + m ≤ b.length ∧ Frm.takeF b = ((b.drop f).take m, (f : Int) + m, c)

set_option maxHeartbeats 1600000 in
set_option maxRecDepth 100000 in
theorem span13_any (v : Value) (b : List UInt8) (w : World) (hl : b.length ≤ 1000000) (hv : RBytes w v b) : Calls Try.prog 22 #[v] w (SpanR b w) := by
  have htk := take_any v b w hv
  obtain ⟨p, cap, rfl⟩ := bytes_form hv
  rcases Frm.takeL_cases b with ⟨c, hc, h1, h2⟩ | ⟨m, r, hb, hm, hc⟩
  · have hq := took_err hc (by omega)
    rw [hc] at htk
    replace htk := Lib.hid htk
    replace hq := Lib.hid hq
    have hn : (c != 0) = true := by simp; omega
    clear hc
    go_enter Try.func22, Try.ntmps22
    go_wp2_with fail
    refine htk.out.mono ?_
    rintro e w1 ⟨rfl, rfl⟩
    go_wp2_with fail
    go_ret3
    exact ⟨0, 0, c, rfl, rfl, by omega, by rw [hq.out]; simp⟩
  · obtain ⟨K, hK⟩ : ∃ K, (Var.putN m).length = K := ⟨_, rfl⟩
    have hKN : K ≤ b.length := by rw [hb, List.length_append]; omega
    have hK4 : K ≤ 4 := by rw [← hK]; exact Var.put_len_le m hm
    rw [hK] at hc
    have hm2 : m ≤ 268435455 := hm
    by_cases hs : (b.length : Int) - K < m
    · have hq := took_short hc hs
      rw [hc] at htk
      replace htk := Lib.hid htk
      replace hq := Lib.hid hq
      clear hc hb hK hv
      go_enter Try.func22, Try.ntmps22
      go_wp2_with fail
      refine htk.out.mono ?_
      rintro e w1 ⟨rfl, rfl⟩
      go_wp2_with fail
      go_ret3
      exact ⟨0, 0, 1, rfl, rfl, by omega, by rw [hq.out]; simp⟩
    · have hq := took_ok hc hs
      rw [hc] at htk
      replace htk := Lib.hid htk
      replace hq := Lib.hid hq
      clear hc hb hK hv
      go_enter Try.func22, Try.ntmps22
      go_wp2_with fail
      refine htk.out.mono ?_
      rintro e w1 ⟨rfl, rfl⟩
      go_wp2_with fail
      go_ret3
      exact ⟨K, m, 0, rfl, rfl, by omega, hq.out⟩

theorem bytes_same {w : World} {a : Addr} {n cap : Nat} {b : List UInt8} (hn : n = b.length) (h : RBytes w (.slice (some a) n cap) b) (f m : Nat) (hm : f + m ≤ n) : (∃ b0 off, a = ⟨b0, off, none⟩ ∧ RBytes w (.slice (some ⟨b0, off + f, none⟩) m (cap - f)) ((b.drop f).take m)) ∨ b = [] := by
  subst hn
  by_cases h0 : 0 < b.length
  · obtain ⟨b0, off, he, _, _⟩ := bytes_at h h0
    cases he
    have := bytes_cap h
    exact .inl ⟨b0, off, rfl, bytes_mid h f m (cap - f) (by omega) (by omega)⟩
  · exact .inr (List.eq_nil_of_length_eq_zero (by omega))

end Go.Proofs.Ytconccgfhdmafaa
