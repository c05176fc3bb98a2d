/- Layer 13: the document's All and Texts. -/
import Derived.Test.YtconccgfhdmafaaFrR1
import Derived.Deep.LoopGhost
import Derived.Deep.DeepCutAuto
namespace Go.Proofs.Ytconccgfhdmafaa
set_option linter.unusedSimpArgs false
set_option linter.unusedVariables false
open Go.RowKit Go.Lib

set_option maxHeartbeats 3200000 in
set_option maxRecDepth 100000 in
theorem rall13_any (v : Value) (b : List UInt8) (w : World) (hl : b.length ≤ 1000000) (hv : RBytes w v b) : Calls Try.prog 12 #[v] w (TookAll (Frm.allF b) w) := by
  obtain ⟨i0, hi, hz0, hz1, hz2⟩ := info_parts info_s
  obtain ⟨p, cap, rfl⟩ := bytes_form hv
  have hcap := bytes_cap hv
  replace hv := Lib.hid hv
  obtain ⟨A, hA⟩ : ∃ A, Frm.allF b = A := ⟨_, rfl⟩
  rw [hA]
  replace hA := Lib.hid hA
  go_enter Try.func12, Try.ntmps12
  go_wp2_with fail
  go_loopg [5, 6] b.length (fun g vo vi wr => ∃ (k : Nat) (ts : List (List UInt8)), k ≤ b.length ∧ vi = .int .i64 k ∧ g = b.length - k ∧ OwnS w.heap.size vo ts wr ∧ AllAt b k ts ∧ ts.length ≤ k ∧ Below w.heap.size w wr)
  case atStart => exact ⟨0, [], Nat.zero_le _, rfl, rfl, ownS_nil _ _, by unfold AllAt; simp, Nat.le_refl _, Below.refl _ _⟩
  case round =>
    obtain ⟨k, ts, hk, rfl, rfl, hown, hat, hfew, hbel⟩ := hrel
    by_cases hlt : k < b.length
    · have hlt' : (k : Int) < (b.length : Int) := by omega
      obtain ⟨b0, off, rfl, _, _⟩ := bytes_at hv.out (by omega)
      have hk2 : ¬ cap = k := by omega
      have htk := rtake13_any _ (b.drop k) wr (by rw [List.length_drop]; omega) (bytes_below (bytes_from hv.out k hk rfl hcap) hbel)
      have hne : b.drop k ≠ [] := by
        intro e
        have := congrArg List.length e
        rw [List.length_drop, List.length_nil] at this
        omega
      have herr := @Frm.all_err (b.drop k) hne
      have hok := @Frm.all_ok (b.drop k)
      obtain ⟨q, hq⟩ : ∃ q, Frm.takeF (b.drop k) = q := ⟨_, rfl⟩
      rw [hq] at htk herr hok
      obtain ⟨t, n, e⟩ := q
      dsimp only at herr hok
      unfold AllAt at hat
      unfold Took at htk
      dsimp only at htk
      by_cases he : e = 0
      · obtain ⟨n', hn', h1, h2, h3⟩ := hok he
        subst he
        subst hn'
        rw [h3] at hat
        rw [List.drop_drop] at hat
        rw [List.length_drop] at h2
        have hat2 : AllAt b (k + n') (ts ++ [t]) := by
          unfold AllAt
          rw [hat]
          simp only [List.append_assoc, List.singleton_append]
          congr 1
          congr 1
          omega
        replace hat2 := Lib.hid hat2
        replace htk := Lib.hid htk
        replace hown := Lib.hid hown
        replace hbel := Lib.hid hbel
        have hlen1 := Lib.hid (show ts.length + 1 ≤ maxLen by unfold maxLen; omega)
        have hlen2 := Lib.hid (show (ts.length + 1) * 16 ≤ 140737488355328 by omega)
        clear hat hq hne herr hok h3
        go_wp2_with fail
        refine htk.out.mono ?_
        rintro e w1 ⟨vt, rfl, rt, q1⟩
        have hcv := run_toStr vt t w1 rt
        obtain ⟨pt, ct, rfl⟩ := bytes_form rt
        have o1 := Lib.hid (ownS_alloc (ownS_below hown.out q1) (.cells #[strV t] 9))
        have b1 := Lib.hid ((below_on hbel.out q1).alloc (below_on hbel.out q1).size (.cells #[strV t] 9))
        have s1 := Lib.hid (srcT_one w1 (strV t) 9)
        clear rt q1
        go_wp2_with (at_builtin; refine wpList_append_src rfl _ _ 28 rfl w.heap.size 9 i0 (.string ⟨#[]⟩) 16 Try.underlying28 hi hz0 hz1 hz2 rfl _ _ _ rfl o1.out _ _ rfl s1.out (oneCellS t) (by rw [List.length_singleton]; exact hlen1.out) (by rw [List.length_singleton]; exact hlen2.out) b1.out.size ?_; intro v5 w5 hown5 hgrow5; have o5 := Lib.hid (ownS_of_row (l := ts ++ [t]) hown5 (by simp) (by simp)); have b5 := Lib.hid (below_row b1.out hgrow5 b1.out.size o1.out (Nat.le_refl _)); clear hown5 hgrow5)
        go_roundg (b.length - (k + n'))
        case measure => omega
        case rel => exact ⟨k + n', ts ++ [t], by omega, by go_num, rfl, o5.out, hat2.out, by simp; omega, b5.out⟩
      · rw [herr he] at hat
        have he2 : (e != 0) = true := by simp; exact he
        have hres : A = (ts, (k : Int), e) := by rw [← hA.out, hat]; simp
        replace htk := Lib.hid htk
        replace hown := Lib.hid hown
        replace hbel := Lib.hid hbel
        replace hres := Lib.hid hres
        clear hat hq hne herr hok
        go_wp2_with fail
        refine htk.out.mono ?_
        rintro e w1 ⟨vt, rfl, rt, q1⟩
        have o1 := Lib.hid (ownS_below hown.out q1)
        have b1 := Lib.hid (below_on hbel.out q1)
        clear rt q1
        go_wp2_with fail
        go_ret3
        have hr := hres.out
        subst hr
        exact ⟨_, rfl, sr_of_own o1.out, b1.out⟩
    · obtain rfl : k = b.length := by omega
      have hlt' : decide ((b.length : Int) < (b.length : Int)) = false := by simp
      unfold AllAt at hat
      rw [List.drop_length, Frm.all_none] at hat
      have hres : A = (ts, (b.length : Int), 0) := by rw [← hA.out, hat]; simp
      replace hown := Lib.hid hown
      replace hbel := Lib.hid hbel
      replace hres := Lib.hid hres
      clear hat
      go_wp2_with fail
      go_ret3
      have hr := hres.out
      subst hr
      exact ⟨_, rfl, sr_of_own hown.out, hbel.out⟩

set_option maxHeartbeats 1600000 in
set_option maxRecDepth 100000 in
/-- texts against themselves -/
theorem texts_self (v1 v2 : Value) (ts : List (List UInt8)) (w : World) (hn : ts.length ≤ 1000000) (h1 : SR w v1 ts) (h2 : SR w v2 ts) :
    Calls Try.prog 17 #[v1, v2] w fun e w' => e = .returned (.bool true) ∧ Below w.heap.size w w' := by
  obtain ⟨p1, c1, rfl⟩ := sr_form h1
  obtain ⟨p2, c2, rfl⟩ := sr_form h2
  replace h1 := Lib.hid h1
  replace h2 := Lib.hid h2
  have hll : ((ts.length : Int) != (ts.length : Int)) = false := by simp
  go_enter Try.func17, Try.ntmps17
  go_wp2_with fail
  go_loopg [5] ts.length (fun g vi wr => ∃ j n : Nat, j ≤ ts.length ∧ vi = .int .i64 j ∧ g = ts.length - j ∧ wr = w.drewN n)
  case atStart => exact ⟨0, 0, Nat.zero_le _, rfl, rfl, rfl⟩
  case round =>
    obtain ⟨j, n, hj, rfl, rfl, rfl⟩ := hrel
    by_cases hlt : j < ts.length
    · have hlt' : (j : Int) < (ts.length : Int) := by omega
      obtain ⟨b1, o1, rfl, _, hc1⟩ := sr_at h1.out (by omega)
      obtain ⟨b2, o2, rfl, _, hc2⟩ := sr_at h2.out (by omega)
      have k1 : w.cell? ⟨b1, o1 + j, none⟩ = some (strV ts[j]) := hc1 j hlt
      have k2 : w.cell? ⟨b2, o2 + j, none⟩ = some (strV ts[j]) := hc2 j hlt
      obtain ⟨S, hS⟩ : ∃ S : ByteArray, (⟨ts[j].toArray⟩ : ByteArray) = S := ⟨_, rfl⟩
      unfold strV at k1 k2
      rw [hS] at k1 k2
      clear hc1 hc2 hS
      go_wp2_with fail
      go_quiet (fail)
      go_wp2_with fail
      go_roundg (ts.length - (j + 1))
      case measure => omega
      case rel => exact ⟨j + 1, _, by omega, by go_num, rfl, by first | rfl | exact World.drewN_drewN _ _ _⟩
    · obtain rfl : j = ts.length := by omega
      have hlt' : decide ((ts.length : Int) < (ts.length : Int)) = false := by simp
      go_wp2_with fail
      go_ret
      exact ⟨rfl, drewN_below w n⟩

end Go.Proofs.Ytconccgfhdmafaa
