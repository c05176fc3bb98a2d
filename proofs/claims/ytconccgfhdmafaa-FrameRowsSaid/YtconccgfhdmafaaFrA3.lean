/- Layer 13: the code's Take and All. -/
import Derived.Test.YtconccgfhdmafaaFrA2
import Derived.Deep.DeepCutAuto
namespace Go.Proofs.Ytconccgfhdmafaa
set_option linter.unusedSimpArgs false
set_option linter.unusedVariables false
open Go.RowKit Go.Lib


theorem bytes_add {w : World} {a : Addr} {n cap : Nat} {b : List UInt8} (hn : n = b.length) (h : RBytes w (.slice (some a) n cap) b) (f m c : Nat) (hm : f + m ≤ n) (hc : m ≤ c) : RBytes w (.slice (some (a.add f)) m c) ((b.drop f).take m) := by
  subst hn
  by_cases h0 : m = 0
  · exact bytes_zero (by rw [List.length_take]; omega) h0
  · obtain ⟨b0, off, he, _, _⟩ := bytes_at h (by omega)
    cases he
    rw [Addr.add_lit]
    exact bytes_mid h f m c hm hc

set_option maxHeartbeats 1600000 in
set_option maxRecDepth 100000 in
theorem take13_any (v : Value) (b : List UInt8) (w : World) (hl : b.length ≤ 1000000) (hv : RBytes w v b) : Calls Try.prog 9 #[v] w (Took (Frm.takeF b) w) := by
  have hsp := span13_any v b w hl hv
  have hcl := fun V M (h : M.length ≤ 1000000) (r : RBytes w V M) => clone8_any V M w h r
  have hv0 := hv
  rcases hv with ⟨rfl, rfl⟩ | ⟨a, cap, rfl, hcap, _⟩
  · replace hsp := Lib.hid hsp
    replace hcl := Lib.hid hcl
    go_enter Try.func9, Try.ntmps9
    go_wp2_with fail
    refine hsp.out.mono ?_
    rintro e w1 ⟨f, m, c, rfl, rfl, hfm, hq⟩
    obtain ⟨rfl, rfl⟩ : f = 0 ∧ m = 0 := by simp at hfm; exact hfm
    replace hq := Lib.hid hq
    go_wp2_with fail
    refine (hcl.out _ [] (by simp) (.inl ⟨rfl, rfl⟩)).mono ?_
    rintro e w2 ⟨v2, rfl, o2, q2⟩
    replace o2 := Lib.hid o2
    replace q2 := Lib.hid q2
    go_wp2_with fail
    go_ret3
    rw [hq.out]
    exact ⟨_, rfl, by simpa using bytes_of_own o2.out, q2.out⟩
  · replace hsp := Lib.hid hsp
    replace hcl := Lib.hid hcl
    replace hv0 := Lib.hid hv0
    go_enter Try.func9, Try.ntmps9
    go_wp2_with fail
    refine hsp.out.mono ?_
    rintro e w1 ⟨f, m, c, rfl, rfl, hfm, hq⟩
    replace hq := Lib.hid hq
    obtain ⟨L, hL⟩ : ∃ L, b.length = L := ⟨_, rfl⟩
    rw [hL] at hfm hcap hl ⊢
    by_cases hcf : cap = f
    · obtain rfl : m = 0 := by omega
      subst hcf
      have hz := hcl.out (.slice (some a) 0 0) [] (by simp) (bytes_zero rfl rfl)
      have hq2 : Frm.takeF b = ([], (cap : Int), c) := by rw [hq.out]; simp
      replace hz := Lib.hid hz
      replace hL := Lib.hid hL
      replace hq2 := Lib.hid hq2
      go_wp2_with fail
      refine hz.out.mono ?_
      rintro e w2 ⟨v2, rfl, o2, q2⟩
      replace o2 := Lib.hid o2
      replace q2 := Lib.hid q2
      go_wp2_with fail
      go_ret3
      rw [hq2.out]
      exact ⟨_, rfl, bytes_of_own o2.out, q2.out⟩
    · have hr := hv0.out
      rw [hL] at hr
      have hz := hcl.out _ _ (by rw [List.length_take]; omega) (bytes_add hL.symm hr f m (cap - f) hfm (by omega))
      replace hz := Lib.hid hz
      replace hL := Lib.hid hL
      clear hr
      go_wp2_with fail
      refine hz.out.mono ?_
      rintro e w2 ⟨v2, rfl, o2, q2⟩
      replace o2 := Lib.hid o2
      replace q2 := Lib.hid q2
      go_wp2_with fail
      go_ret3
      rw [hq.out]
      exact ⟨_, rfl, bytes_of_own o2.out, q2.out⟩

theorem bytes_rest {w : World} {a : Addr} {n cap k : Nat} {b : List UInt8} (hn : n = (b.drop k).length) (h : RBytes w (.slice (some a) n cap) (b.drop k)) (f : Nat) (hm : f ≤ n) (hc : n ≤ cap) : RBytes w (.slice (some (a.add f)) (n - f) (cap - f)) (b.drop (k + f)) := by
  have := bytes_add hn h f (n - f) (cap - f) (by omega) (by omega)
  rwa [List.take_of_length_le (by rw [List.length_drop, ← hn]; exact Nat.le_refl _), List.drop_drop] at this

set_option maxHeartbeats 3200000 in
set_option maxRecDepth 100000 in
theorem all13_any (v : Value) (b : List UInt8) (w : World) (hl : b.length ≤ 1000000) (hv : RBytes w v b) : Calls Try.prog 11 #[v] w (TookAll (Frm.allF b) w) := by
  obtain ⟨i0, hi, hz0, hz1, hz2⟩ := info_parts info_s
  have hv0 := hv
  obtain ⟨p, cap, rfl⟩ := bytes_form hv
  replace hv := Lib.hid hv
  obtain ⟨A, hA⟩ : ∃ A, Frm.allF b = A := ⟨_, rfl⟩
  rw [hA]
  replace hA := Lib.hid hA
  obtain ⟨L, hL⟩ : ∃ L, b.length = L := ⟨_, rfl⟩
  rw [hL] at hl ⊢
  replace hL := Lib.hid hL
  go_enter Try.func11, Try.ntmps11
  go_wp2_with fail
  go_loopg [5, 6] L (fun g vo vr wr => ∃ (k n : Nat) (p : Option Addr) (cap : Nat) (ts : List (List UInt8)), n = g ∧ k + n = L ∧ vr = .slice p n cap ∧ RBytes w vr (b.drop k) ∧ OwnS w.heap.size vo ts wr ∧ AllAt b k ts ∧ ts.length ≤ k ∧ Below w.heap.size w wr)
  case atStart => exact ⟨0, _, _, _, [], rfl, by omega, rfl, by simpa [hL.out] using hv.out, ownS_nil _ _, by unfold AllAt; simp, Nat.le_refl _, Below.refl _ _⟩
  case round =>
    obtain ⟨k, n, p, cap, ts, rfl, hk, rfl, hr, hown, hat, hfew, hbel⟩ := hrel
    have hdl : n = (b.drop k).length := by rw [List.length_drop, hL.out]; omega
    by_cases hlt : 0 < n
    · have hlt' : (n : Int) > 0 := by omega
      have hcap := bytes_cap hr
      have hrw := bytes_below hr hbel
      have hsp := span13_any _ (b.drop k) wr (by omega) hrw
      obtain ⟨a, rfl⟩ : ∃ a, p = some a := by
        obtain ⟨b0, off, he, _⟩ := bytes_at hr (by omega)
        exact ⟨_, he⟩
      have hne : b.drop k ≠ [] := by
        intro e
        rw [e, List.length_nil] at hdl
        omega
      have herr := @Frm.all_err (b.drop k) hne
      have hok := @Frm.all_ok (b.drop k)
      unfold AllAt at hat
      replace hsp := Lib.hid hsp
      replace hown := Lib.hid hown
      replace hbel := Lib.hid hbel
      replace hr := Lib.hid hr
      replace hrw := Lib.hid hrw
      replace hat := Lib.hid hat
      replace herr := Lib.hid herr
      replace hok := Lib.hid hok
      replace hdl := Lib.hid hdl
      clear hne
      go_wp2_with fail
      refine hsp.out.mono ?_
      rintro e w1 ⟨f, m, c, rfl, rfl, hfm, hq⟩
      rw [← hdl.out] at hfm
      have herr2 := herr.out
      have hok2 := hok.out
      rw [hq] at herr2 hok2
      dsimp only at herr2 hok2
      have hat1 := hat.out
      by_cases hc : c = 0
      · obtain ⟨n', hn', h1, h2, h3⟩ := hok2 hc
        have hcn : (c != 0) = false := by simp; exact hc
        obtain rfl : n' = f + m := by omega
        have hadd := fun c' hc' => Lib.hid (bytes_add hdl.out hrw.out f m c' hfm hc')
        obtain ⟨M, hM⟩ : ∃ M, ((b.drop k).drop f).take m = M := ⟨_, rfl⟩
        have hMl := Lib.hid (show M.length = m by rw [← hM, List.length_take, List.length_drop, ← hdl.out]; omega)
        rw [hM] at h3 hadd
        rw [h3, List.drop_drop] at hat1
        have hat2 : AllAt b (k + (f + m)) (ts ++ [M]) := by
          unfold AllAt
          rw [hat1]
          simp only [List.append_assoc, List.singleton_append]
          congr 1
          congr 1
          omega
        replace hat2 := Lib.hid hat2
        have hlen1 := Lib.hid (show ts.length + 1 ≤ maxLen by unfold maxLen; omega)
        have hlen2 := Lib.hid (show (ts.length + 1) * 16 ≤ 140737488355328 by omega)
        have o1 := Lib.hid (ownS_alloc hown.out (.cells #[strV M] 9))
        have b1 := Lib.hid (hbel.out.alloc hbel.out.size (.cells #[strV M] 9))
        have s1 := Lib.hid (srcT_one wr (strV M) 9)
        have hd2 := Lib.hid (show n - (f + m) = (b.drop (k + (f + m))).length by rw [List.length_drop, hL.out]; omega)
        unfold strV at o1 b1 s1
        clear hq hM hat1 h3 herr2 hok2 hn' h2
        by_cases hcf : cap = f
        · obtain rfl : m = 0 := by omega
          subst hcf
          obtain rfl : cap = n := by omega
          have hrest := fun (x : World) => Lib.hid (show RBytes x (.slice (some a) 0 0) (b.drop (k + (cap + 0))) from bytes_zero (by rw [← hd2.out]; omega) rfl)
          have hcv := run_toStr (.slice (some a) 0 0) M wr (bytes_zero hMl.out rfl)
          go_wp2_with (at_builtin; refine wpList_append_src rfl _ _ 28 rfl w.heap.size 9 i0 (.string ⟨#[]⟩) 16 Try.underlying28 hi hz0 hz1 hz2 rfl _ _ _ rfl o1.out _ _ rfl s1.out (oneCellS M) (by rw [List.length_singleton]; exact hlen1.out) (by rw [List.length_singleton]; exact hlen2.out) b1.out.size ?_; intro v5 w5 hown5 hgrow5; have o5 := Lib.hid (ownS_of_row (l := ts ++ [M]) hown5 (by simp) (by simp)); have b5 := Lib.hid (below_row b1.out hgrow5 b1.out.size o1.out (Nat.le_refl _)); clear hown5 hgrow5)
          go_roundg (cap - (cap + 0))
          case measure => omega
          case rel => exact ⟨k + (cap + 0), cap - (cap + 0), some a, 0, ts ++ [M], rfl, by omega, by simp, (by simpa using (hrest _).out), o5.out, hat2.out, by simp; omega, b5.out⟩
        · have hcv := run_toStr _ M wr (hadd (cap - f) (by omega)).out
          by_cases hcm : cap = f + m
          · obtain rfl : n = cap := by omega
            have hrest := fun (x : World) => Lib.hid (show RBytes x (.slice (some a) 0 0) (b.drop (k + (f + m))) from bytes_zero (by rw [← hd2.out]; omega) rfl)
            have hcm2 := hcm.symm
            have hmn : m = n - f := by omega
            have hcv2 := run_toStr (.slice (some (a.add f)) (n - f) (n - f)) M wr (hmn ▸ (hadd m (Nat.le_refl _)).out)
            replace hmn := Lib.hid hmn
            clear hcm
            go_wp2_with (at_builtin; refine wpList_append_src rfl _ _ 28 rfl w.heap.size 9 i0 (.string ⟨#[]⟩) 16 Try.underlying28 hi hz0 hz1 hz2 rfl _ _ _ rfl o1.out _ _ rfl s1.out (oneCellS M) (by rw [List.length_singleton]; exact hlen1.out) (by rw [List.length_singleton]; exact hlen2.out) b1.out.size ?_; intro v5 w5 hown5 hgrow5; have o5 := Lib.hid (ownS_of_row (l := ts ++ [M]) hown5 (by simp) (by simp)); have b5 := Lib.hid (below_row b1.out hgrow5 b1.out.size o1.out (Nat.le_refl _)); clear hown5 hgrow5)
            go_roundg (n - (f + m))
            case measure => omega
            case rel => exact ⟨k + (f + m), n - (f + m), some a, 0, ts ++ [M], rfl, by omega, by simp [hcm2], (by simpa [hcm2] using (hrest _).out), o5.out, hat2.out, by simp; omega, b5.out⟩
          · have hrest := Lib.hid (bytes_rest hdl.out hr.out (f + m) (by omega) hcap)
            have hba := Lib.hid hcm
            go_wp2_with (at_builtin; refine wpList_append_src rfl _ _ 28 rfl w.heap.size 9 i0 (.string ⟨#[]⟩) 16 Try.underlying28 hi hz0 hz1 hz2 rfl _ _ _ rfl o1.out _ _ rfl s1.out (oneCellS M) (by rw [List.length_singleton]; exact hlen1.out) (by rw [List.length_singleton]; exact hlen2.out) b1.out.size ?_; intro v5 w5 hown5 hgrow5; have o5 := Lib.hid (ownS_of_row (l := ts ++ [M]) hown5 (by simp) (by simp)); have b5 := Lib.hid (below_row b1.out hgrow5 b1.out.size o1.out (Nat.le_refl _)); clear hown5 hgrow5)
            go_roundg (n - (f + m))
            case measure => omega
            case rel => exact ⟨k + (f + m), n - (f + m), _, _, ts ++ [M], rfl, by omega, rfl, hrest.out, o5.out, hat2.out, by simp; omega, b5.out⟩
      · rw [herr2 hc] at hat1
        have hcn : (c != 0) = true := by simp; exact hc
        have hres : A = (ts, (k : Int), c) := by rw [← hA.out, hat1]; simp
        have hkk : (L : Int) - (n : Int) = k := by omega
        replace hres := Lib.hid hres
        clear hq hat1 herr2 hok2
        go_wp2_with fail
        go_ret3
        have hr := hres.out
        subst hr
        exact ⟨_, rfl, sr_of_own hown.out, hbel.out⟩
    · obtain rfl : n = 0 := by omega
      obtain rfl : k = L := by omega
      have hlt' : ¬ ((0 : Int) > 0) := by omega
      unfold AllAt at hat
      rw [← hL.out, List.drop_length, Frm.all_none, hL.out] at hat
      have hres : A = (ts, (k : Int), 0) := by rw [← hA.out, hat]; simp
      replace hown := Lib.hid hown
      replace hbel := Lib.hid hbel
      replace hres := Lib.hid hres
      clear hat hdl hr
      go_wp2_with fail
      go_ret3
      have hr := hres.out
      subst hr
      exact ⟨_, rfl, sr_of_own hown.out, hbel.out⟩

end Go.Proofs.Ytconccgfhdmafaa
