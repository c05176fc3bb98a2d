/- Layer 8: the code's Safe. -/
import Derived.Test.YtfmnecknfmgggaaGreatDoorNfA1
import Derived.Deep.CutBlock
namespace Go.Proofs.YtfmnecknfmgggaaGreatDoor
set_option linter.unusedSimpArgs false
set_option linter.unusedVariables false
open Go.RowKit Go.Lib

namespace Nfk
open Prp (mrkB)
theorem safe_mark {x : Int} (t : List Int) {n : Nat} (hx : mrkB x = true) (hn : n < 30) : safeI (x :: t) n = x :: safeI t (n + 1) := by
  rw [safeI, if_pos hx, if_neg (by omega)]
theorem safe_letter {x : Int} (t : List Int) (n : Nat) (hx : mrkB x = false) : safeI (x :: t) n = x :: safeI t 0 := by
  rw [safeI, if_neg (by rw [hx]; simp)]
theorem safe_join {x : Int} (t : List Int) (hx : mrkB x = true) : safeI (x :: t) 30 = 847 :: safeI (x :: t) 0 := by
  rw [safeI, if_pos hx, if_pos rfl, safe_mark t hx (by omega)]
theorem safe_free {x : Int} (t : List Int) (n : Nat) (hx : mrkB x = false) : safeI (x :: t) n = safeI (x :: t) 0 := by
  rw [safe_letter t n hx, safe_letter t 0 hx]
/-- one more of a row -/
theorem safe_next {l : List Int} {j n : Nat} (hj : j < l.length) (hn : n < 30) {T M : List Int} (h : T ++ safeI (l.drop j) n = M) :
    (mrkB l[j] = true → (T ++ [l[j]]) ++ safeI (l.drop (j + 1)) (n + 1) = M) ∧ (mrkB l[j] = false → (T ++ [l[j]]) ++ safeI (l.drop (j + 1)) 0 = M) := by
  rw [List.drop_eq_getElem_cons hj] at h
  refine ⟨fun hx => ?_, fun hx => ?_⟩
  · rw [safe_mark _ hx hn] at h
    rw [← h]; simp
  · rw [safe_letter _ n hx] at h
    rw [← h]; simp
/-- a row of thirty is full -/
theorem safe_full {l : List Int} {j : Nat} (hj : j < l.length) {T M : List Int} (h : T ++ safeI (l.drop j) 30 = M) :
    (mrkB l[j] = true → (T ++ [847]) ++ safeI (l.drop j) 0 = M) ∧ (mrkB l[j] = false → T ++ safeI (l.drop j) 0 = M) := by
  rw [List.drop_eq_getElem_cons hj] at h ⊢
  refine ⟨fun hx => ?_, fun hx => ?_⟩
  · rw [safe_join _ hx] at h
    rw [← h]; simp
  · rw [safe_free _ 30 hx] at h
    exact h
end Nfk

set_option maxHeartbeats 6400000 in
set_option maxRecDepth 100000 in
theorem safe_any8 (v : Value) (l : List Int) (w : World) (hl : l.length ≤ 100000) (hv : RI w v l) : Calls Tryz.prog 72 #[v] w (Told (Nfk.safeI l 0) w) := by
  obtain ⟨i0, hi, hz0, hz1, hz2⟩ := info_parts info_i
  obtain ⟨p, cap, rfl⟩ := ri_form hv
  have hcap := (ri_cap hv).2.1
  obtain ⟨X, hX, hmk⟩ := make_empty l.length (by omega)
  replace hv := Lib.hid hv
  replace hX := Lib.hid hX
  obtain ⟨M, hM⟩ : ∃ M, Nfk.safeI l 0 = M := ⟨_, rfl⟩
  rw [hM]
  replace hM := Lib.hid hM
  go_enter Tryz.func72, Tryz.ntmps72
  go_wp2
  go_step3
  go_wp2
  go_step3
  go_wp2
  clear hmk
  go_loopg [3, 4, 6] l.length (fun g vt vn vr wr => ∃ (k : Nat) (T : List Int), k ≤ l.length ∧ vn = .int .i64 k ∧ g = l.length - k ∧ OwnI w.heap.size vt T wr ∧ Hid (T ++ Nfk.safeI (l.drop k) 0 = M) ∧ T.length ≤ 2 * k ∧ Below w.heap.size w wr)
  case atStart => exact ⟨0, [], Nat.zero_le _, rfl, rfl, own_empty w X l.length hX.out (by unfold maxLen; omega), Lib.hid hM.out, Nat.le_refl _, below_new w _⟩
  case round =>
    obtain ⟨k, T, hk, rfl, rfl, hown, hst, hT, hbel⟩ := hrel
    by_cases hlt : k < l.length
    · have hlt' : (k : Int) < (l.length : Int) := by omega
      obtain ⟨b, off, rfl, hb, hcell⟩ := ri_at hv.out (by omega)
      have hcell' := fun (W : World) (hW : Below w.heap.size w W) (q : Nat) (hq : q < l.length) => (hW.cell (p := ⟨b, off + q, none⟩) hb).trans (hcell q hq)
      replace hcell' := Lib.hid hcell'
      replace hown := Lib.hid hown
      replace hbel := Lib.hid hbel
      clear hcell
      go_upto_block 2 with fail
      obtain ⟨m, hm⟩ : ∃ m, (min ((k : Int) + 30) (l.length : Int)).toNat - k = m := ⟨_, rfl⟩
      have hm30 : m ≤ 30 := by omega
      have hmL : k + m ≤ l.length := by omega
      have hm2 : m = 30 ∨ k + m = l.length := by omega
      have hm0 : 0 < m := by omega
      rw [hm]
      generalize min ((k : Int) + 30) (l.length : Int) = mn at hm ⊢
      replace hm2 := Lib.hid hm2
      clear hm hcap
      go_wp2_with fail
      go_loopg [3, 4, 6, 23] m (fun g vt vn vr vi wr => ∃ (i j : Nat) (T : List Int), i ≤ m ∧ Hid (j = k + i) ∧ vi = .int .i64 i ∧ vn = .int .i64 j ∧ g = m - i ∧ OwnI w.heap.size vt T wr ∧ Hid (T ++ Nfk.safeI (l.drop j) i = M) ∧ T.length ≤ 2 * k + i ∧ Below w.heap.size w wr)
      case atStart => exact ⟨0, k, T, Nat.zero_le _, Lib.hid rfl, rfl, rfl, rfl, hown.out, hst, hT, hbel.out⟩
      case round =>
        clear hown hbel hst hT
        obtain ⟨i, j, T, hile, hj, rfl, rfl, rfl, hown, hst, hT, hbel⟩ := hrel
        replace hown := Lib.hid hown
        replace hbel := Lib.hid hbel
        have hTm : T.length ≤ 300000 := by omega
        by_cases him : i < m
        · have him' : (i : Int) < (m : Int) := by omega
          have hjl : j < l.length := by have := hj.out; omega
          have hc := hcell'.out wr hbel.out j hjl
          have hnext := Nfk.safe_next hjl (by omega) hst.out
          obtain ⟨x, hx⟩ : ∃ x, l[j] = x := ⟨_, rfl⟩
          rw [hx] at hc hnext
          rw [show off + j = off + k + i by have := hj.out; omega] at hc
          obtain ⟨pt, ct, rfl⟩ := ri_form (ri_of_own hown.out)
          have o3 := Lib.hid (ownI_alloc hown.out (.cells #[.int .i64 x] 3))
          have b3 := Lib.hid (hbel.out.alloc hbel.out.size (.cells #[.int .i64 x] 3))
          have s3 := Lib.hid (ri_src (ri_of_own (ownI_lit w.heap.size wr [x] #[.int .i64 x] wr.heap.size 1 rfl hbel.out.size rfl rfl (by unfold maxLen; omega))))
          have hj1 : (j : Int) + 1 ≤ 9223372036854775807 := by omega
          have hTn : (T ++ [x]).length = T.length + 1 := by simp
          replace hTn := Lib.hid hTn
          replace hj1 := Lib.hid hj1
          clear hx hst hown
          cases hmb : Prp.mrkB x with
          | true =>
            have hn := Lib.hid (hnext.1 hmb)
            have hmx := Lib.hid (markOf7 x true hmb)
            clear hnext hmb
            go_wp2_with (at_builtin; refine wpList_append_src rfl _ _ 22 rfl w.heap.size 3 i0 (.int .i64 0) 8 Tryz.underlying22 hi hz0 hz1 hz2 rfl _ _ _ rfl o3.out _ _ rfl s3.out (oneCellI _) (by simp only [List.length_map, List.length_append, List.length_take, List.length_drop, List.length_cons, List.length_nil, List.length_singleton]; unfold maxLen; omega) (by simp only [List.length_map, List.length_append, List.length_take, List.length_drop, List.length_cons, List.length_nil, List.length_singleton]; omega) b3.out.size ?_; intro v5 w5 ho5 hg5; have o5 := Lib.hid (ownI_of_row (l := T ++ [x]) ho5 (by (try simp); try omega) (by (try simp); try omega)); have b5 := Lib.hid (below_row b3.out hg5 b3.out.size o3.out (Nat.le_refl _)); clear ho5 hg5)
            refine (hmx.out _).mono ?_
            rintro e w6 ⟨rfl, hb6⟩
            have o6 := Lib.hid (ownI_below o5.out hb6)
            have b6 := Lib.hid (below_on b5.out hb6)
            clear hb6
            go_wp2_with fail
            go_roundg (m - (i + 1))
            case measure => omega
            case rel => exact ⟨i + 1, j + 1, T ++ [x], by omega, Lib.hid (by have := hj.out; omega), by go_num, by go_num, rfl, o6.out, hn, by rw [hTn.out]; omega, b6.out⟩
          | false =>
            have hn := Lib.hid (hnext.2 hmb)
            have hmx := Lib.hid (markOf7 x false hmb)
            clear hnext hmb
            go_wp2_with (at_builtin; refine wpList_append_src rfl _ _ 22 rfl w.heap.size 3 i0 (.int .i64 0) 8 Tryz.underlying22 hi hz0 hz1 hz2 rfl _ _ _ rfl o3.out _ _ rfl s3.out (oneCellI _) (by simp only [List.length_map, List.length_append, List.length_take, List.length_drop, List.length_cons, List.length_nil, List.length_singleton]; unfold maxLen; omega) (by simp only [List.length_map, List.length_append, List.length_take, List.length_drop, List.length_cons, List.length_nil, List.length_singleton]; omega) b3.out.size ?_; intro v5 w5 ho5 hg5; have o5 := Lib.hid (ownI_of_row (l := T ++ [x]) ho5 (by (try simp); try omega) (by (try simp); try omega)); have b5 := Lib.hid (below_row b3.out hg5 b3.out.size o3.out (Nat.le_refl _)); clear ho5 hg5)
            refine (hmx.out _).mono ?_
            rintro e w6 ⟨rfl, hb6⟩
            have o6 := Lib.hid (ownI_below o5.out hb6)
            have b6 := Lib.hid (below_on b5.out hb6)
            clear hb6
            go_wp2_with fail
            go_roundg (l.length - (j + 1))
            case measure => have := hj.out; omega
            case rel => exact ⟨j + 1, T ++ [x], by omega, by go_num, rfl, o6.out, hn, by have := hj.out; rw [hTn.out]; omega, b6.out⟩
        · obtain rfl : i = m := by omega
          have him' : decide ((i : Int) < (i : Int)) = false := by simp
          by_cases hjl : j < l.length
          · have hjl' : (j : Int) < (l.length : Int) := by omega
            have hi30 : i = 30 := by have := hj.out; rcases hm2.out with h | h <;> omega
            have hc := hcell'.out wr hbel.out j hjl
            have hst' := hst.out
            rw [hi30] at hst'
            have hnext := Nfk.safe_full hjl hst'
            obtain ⟨x, hx⟩ : ∃ x, l[j] = x := ⟨_, rfl⟩
            rw [hx] at hc hnext
            replace hi30 := Lib.hid hi30
            obtain ⟨pt, ct, rfl⟩ := ri_form (ri_of_own hown.out)
            clear hx hst'
            cases hmb : Prp.mrkB x with
            | true =>
              have hn := Lib.hid (hnext.1 hmb)
              have hmx := Lib.hid (markOf7 x true hmb)
              clear hnext hmb
              go_wp2_with fail
              refine (hmx.out _).mono ?_
              rintro e w6 ⟨rfl, hb6⟩
              have o6 := ownI_below hown.out hb6
              have b6 := below_on hbel.out hb6
              have o3 := Lib.hid (ownI_alloc o6 (.cells #[.int .i64 847] 3))
              have b3 := Lib.hid (b6.alloc b6.size (.cells #[.int .i64 847] 3))
              have s3 := Lib.hid (ri_src (ri_of_own (ownI_lit w.heap.size w6 [847] #[.int .i64 847] w6.heap.size 1 rfl b6.size rfl rfl (by unfold maxLen; omega))))
              clear hb6 o6 b6 hown hbel hst
              go_wp2_with (at_builtin; refine wpList_append_src rfl _ _ 22 rfl w.heap.size 3 i0 (.int .i64 0) 8 Tryz.underlying22 hi hz0 hz1 hz2 rfl _ _ _ rfl o3.out _ _ rfl s3.out (oneCellI _) (by simp only [List.length_map, List.length_append, List.length_take, List.length_drop, List.length_cons, List.length_nil, List.length_singleton]; unfold maxLen; omega) (by simp only [List.length_map, List.length_append, List.length_take, List.length_drop, List.length_cons, List.length_nil, List.length_singleton]; omega) b3.out.size ?_; intro v5 w5 ho5 hg5; have o5 := Lib.hid (ownI_of_row (l := T ++ [847]) ho5 (by (try simp); try omega) (by (try simp); try omega)); have b5 := Lib.hid (below_row b3.out hg5 b3.out.size o3.out (Nat.le_refl _)); clear ho5 hg5)
              go_roundg (l.length - j)
              case measure => have := hj.out; omega
              case rel => exact ⟨j, T ++ [847], by omega, rfl, rfl, o5.out, hn, by have := hj.out; have := hi30.out; simp only [List.length_append, List.length_singleton]; omega, b5.out⟩
            | false =>
              have hn := Lib.hid (hnext.2 hmb)
              have hmx := Lib.hid (markOf7 x false hmb)
              clear hnext hmb
              go_wp2_with fail
              refine (hmx.out _).mono ?_
              rintro e w6 ⟨rfl, hb6⟩
              have o6 := Lib.hid (ownI_below hown.out hb6)
              have b6 := Lib.hid (below_on hbel.out hb6)
              clear hb6 hown hbel hst
              go_wp2_with fail
              go_roundg (l.length - j)
              case measure => have := hj.out; omega
              case rel => exact ⟨j, T, by omega, rfl, rfl, o6.out, hn, by have := hj.out; omega, b6.out⟩
          · have hjl' : ¬ (j : Int) < (l.length : Int) := by omega
            have hjL : j = l.length := by have := hj.out; omega
            have hn : Hid (T ++ Nfk.safeI (l.drop j) 0 = M) := Lib.hid (by
              have h := hst.out
              rw [List.drop_of_length_le (by omega)] at h ⊢
              exact h)
            replace hjL := Lib.hid hjL
            obtain ⟨pt, ct, rfl⟩ := ri_form (ri_of_own hown.out)
            clear hst
            go_wp2_with fail
            go_roundg (l.length - j)
            case measure => have := hj.out; have := hjL.out; omega
            case rel => exact ⟨j, T, by have := hjL.out; omega, rfl, rfl, hown.out, hn, by have := hj.out; omega, hbel.out⟩
    · obtain rfl : k = l.length := by omega
      have hlt' : decide ((l.length : Int) < (l.length : Int)) = false := by simp
      have hfin : T = M := by have := hst.out; rw [List.drop_length] at this; simpa [Nfk.safeI] using this
      subst hfin
      replace hown := Lib.hid hown
      replace hbel := Lib.hid hbel
      obtain ⟨pt, ct, rfl⟩ := ri_form (ri_of_own hown.out)
      clear hst hM
      go_wp2_with fail
      try rw [Exit.noGoto_ret]
      go_ret
      exact ⟨_, rfl, ri_of_own hown.out, hbel.out⟩


theorem safeC : SafeC := fun v l w hl hv _ => safe_any8 v l w (by omega) hv

end Go.Proofs.YtfmnecknfmgggaaGreatDoor
