/- Layer 4: Full and Is. -/
import Derived.Test.YtgahfbcdnbhikaaDoorDeA3
namespace Go.Proofs.YtgahfbcdnbhikaaDoor
open Go.RowKit Go.Lib

/-- what find comes to -/
def FindAll (r : Int) (w : World) (e : Ending) (w' : World) : Prop :=
  ∃ s : ByteArray, e = .returned (.tuple #[.string s, .bool (Lk.look Dcp.T r).isSome]) ∧ (∀ p, Lk.look Dcp.T r = some p → s.size = 25 ∧ Dcp.madeF s.data.toList 4 0 = p) ∧ Below w.heap.size w w'

set_option maxHeartbeats 800000 in
theorem dfind_any (r : Int) (w : World) :
    Calls Tryd.prog 24 #[.int .i64 r] w (FindAll r w) := by
  cases hlk : Lk.look Dcp.T r with
  | none =>
    replace hlk := Lib.hid hlk
    go_enter Tryd.func24, Tryd.ntmps24
    go_wp2_with fail
    refine (sfind_any r w.heap.size _ (by simp)).mono ?_
    rintro e w1 ⟨rfl, n, rfl⟩
    rw [hlk.out]
    go_wp2_with fail
    go_ret2
    exact ⟨⟨#[]⟩, by rw [hlk.out]; rfl, (fun p h => by rw [hlk.out] at h; cases h), (below_new _ _).trans ((drewN_below _ _).mono (by simp))⟩
  | some p =>
    obtain ⟨hpn, hkey, hv⟩ := Lk.look_some Dcp.up hlk
    obtain ⟨k, hk⟩ : ∃ k, Lk.pos Dcp.T r = k := ⟨_, rfl⟩
    have hk374 : k < 374 := by rw [← hk, ← Dcp.rows]; exact hpn
    obtain ⟨_, hsz, _, hmd⟩ := row_parts k hk374
    simp only [hk] at hv
    rw [hv] at hmd
    have hrow := Lib.hid (row_any k hk374)
    replace hsz := Lib.hid hsz
    replace hmd := Lib.hid hmd
    replace hlk := Lib.hid hlk
    clear hv hkey hpn
    go_enter Tryd.func24, Tryd.ntmps24
    replace hk := Lib.hid hk
    go_wp2_with fail
    refine (sfind_any r w.heap.size _ (by simp)).mono ?_
    rintro e w1 ⟨rfl, n, rfl⟩
    rw [hlk.out, hk.out]
    go_wp2_with fail
    refine (hrow.out _).mono ?_
    rintro e w1 ⟨rfl, rfl⟩
    go_wp2_with fail
    go_ret2
    exact ⟨rowB k, by rw [hlk.out]; rfl, (fun q h => by rw [hlk.out] at h; cases h; exact ⟨hsz.out, hmd.out⟩), (below_new _ _).trans ((drewN_below _ _).mono (by simp))⟩

theorem syllable_any (r : Int) (w : World) :
    Calls Tryd.prog 21 #[.int .i64 r] w fun e w' => e = .returned (.bool (decide (44032 ≤ r) && decide (r ≤ 55203))) ∧ w = w' := by
  by_cases h1 : 44032 ≤ r
  · by_cases h2 : r ≤ 55203
    all_goals
      go_enter Tryd.func21, Tryd.ntmps21
      go_wp2_with fail
      go_ret
      exact ⟨by simp [h1, h2], rfl⟩
  · have h1' : decide (44032 ≤ r) = false := by simpa using h1
    go_enter Tryd.func21, Tryd.ntmps21
    go_wp2_with fail
    go_ret
    exact ⟨by simp [h1], rfl⟩

theorem wide_any (r : Int) (w : World) :
    Calls Tryd.prog 23 #[.int .i64 r] w fun e w' => e = .returned (.bool (decide (65281 ≤ r) && decide (r ≤ 65374))) ∧ w = w' := by
  by_cases h1 : 65281 ≤ r
  · by_cases h2 : r ≤ 65374
    all_goals
      go_enter Tryd.func23, Tryd.ntmps23
      go_wp2_with fail
      go_ret
      exact ⟨by simp [h1, h2], rfl⟩
  · have h1' : decide (65281 ≤ r) = false := by simpa using h1
    go_enter Tryd.func23, Tryd.ntmps23
    go_wp2_with fail
    go_ret
    exact ⟨by simp [h1], rfl⟩

set_option maxHeartbeats 1600000 in
theorem letters_any (s : Int) (h0 : 0 ≤ s) (h1 : s < 11172) (w : World) :
    Calls Tryd.prog 22 #[.int .i64 s] w fun e w' => ∃ v, e = .returned v ∧ OwnI w.heap.size v (Dcp.sylL s) w' ∧ Below w.heap.size w w' := by
  obtain ⟨i0, hi, hz0, hz1, hz2⟩ := info_parts info_i
  by_cases ht : s % 28 = 0
  · have hsl : Dcp.sylL s = [0x1100 + s / 588, 0x1161 + s % 588 / 28] := by unfold Dcp.sylL; rw [if_pos ht]
    replace hsl := Lib.hid hsl
    go_enter Tryd.func22, Tryd.ntmps22
    go_wp2_with fail
    go_ret
    exact ⟨_, rfl, ownI_cast (ownI_lit w.heap.size w [4352 + s / 588, 4449 + s % 588 / 28] _ w.heap.size 2 rfl (Nat.le_refl _) rfl rfl (by unfold maxLen; omega)) hsl.out.symm, below_new _ _⟩
  · have hsl : Dcp.sylL s = [0x1100 + s / 588, 0x1161 + s % 588 / 28] ++ [0x11A7 + s % 28] := by unfold Dcp.sylL; rw [if_neg ht]; rfl
    replace hsl := Lib.hid hsl
    have ht1 : 0 < s % 28 := by omega
    have ht2 : s % 28 < 28 := by omega
    obtain ⟨x, hx⟩ : ∃ x, 4352 + s / 588 = x := ⟨_, rfl⟩
    obtain ⟨y, hy⟩ : ∃ y, 4449 + s % 588 / 28 = y := ⟨_, rfl⟩
    obtain ⟨z, hz⟩ : ∃ z, 4519 + s % 28 = z := ⟨_, rfl⟩
    rw [hx, hy, hz] at hsl
    have hown := ownI_lit w.heap.size w [x, y] #[.int .i64 x, .int .i64 y] w.heap.size 2 rfl (Nat.le_refl _) rfl rfl (by unfold maxLen; omega)
    have hone := ri_src (ri_of_own (ownI_lit w.heap.size (w.alloc (.cells #[.int .i64 x, .int .i64 y] 3)) [z] #[.int .i64 z] (w.heap.size + 1) 1 (by simp) (by omega) rfl rfl (by unfold maxLen; omega)))
    have hown2 := Lib.hid (ownI_alloc hown (.cells #[.int .i64 z] 3))
    have hbel := Lib.hid (((below_new w (.cells #[.int .i64 x, .int .i64 y] 3)).alloc (by simp) (.cells #[.int .i64 z] 3)))
    clear ht hown
    go_enter Tryd.func22, Tryd.ntmps22
    go_wp2_with (at_builtin; refine wpList_append_src rfl _ _ 28 rfl w.heap.size 3 i0 (.int .i64 0) 8 Tryd.underlying28 hi hz0 hz1 hz2 rfl _ _ _ rfl hown2.out _ _ rfl hone (oneCellI [z]) (by unfold maxLen; simp) (by simp) hbel.out.size ?_; intro v5 w5 hown5 hgrow5)
    have hown6 := ownI_of_row (l := [x, y] ++ [z]) hown5 (by simp) (by simp)
    have hbel6 := below_row hbel.out hgrow5 hbel.out.size hown2.out (Nat.le_refl _)
    go_ret
    exact ⟨_, rfl, ownI_cast hown6 hsl.out.symm, hbel6⟩

/-- Full -/
def FullRes (l : List Int) (w : World) (e : Ending) (w' : World) : Prop := ∃ v, e = .returned v ∧ OwnI w.heap.size v l w' ∧ Below w.heap.size w w'

set_option maxHeartbeats 1600000 in
theorem full_any (r : Int) (hr : -9223372036854775808 ≤ r ∧ r ≤ 9223372036854775807) (w : World) :
    Calls Tryd.prog 12 #[.int .i64 r] w (FullRes (Dcp.fullI r) w) := by
  obtain ⟨hr1, hr2⟩ := hr
  have hsyl := syllable_any r
  have hwid := wide_any r
  by_cases h1 : 0xAC00 ≤ r ∧ r ≤ 0xD7A3
  · have hf := Dcp.full_syl h1
    obtain ⟨h1a, h1b⟩ := h1
    rw [show (decide (44032 ≤ r) && decide (r ≤ 55203)) = true by simp [h1a, h1b]] at hsyl
    have hl := letters_any (r - 44032) (by omega) (by omega)
    obtain ⟨l, hl'⟩ : ∃ l, Dcp.sylL (r - 44032) = l := ⟨_, rfl⟩
    rw [hl'] at hl hf
    replace hl := Lib.hid hl
    replace hsyl := Lib.hid hsyl
    clear hl' hwid
    rw [hf]
    clear hf
    go_enter Tryd.func12, Tryd.ntmps12
    go_wp2_with fail
    refine (hsyl.out _).mono ?_
    rintro e w1 ⟨rfl, rfl⟩
    go_wp2_with fail
    refine (hl.out _).mono ?_
    rintro e w1 ⟨v, rfl, hv, hb⟩
    replace hv := Lib.hid hv
    replace hb := Lib.hid hb
    go_wp2_with fail
    go_ret
    exact ⟨_, rfl, hv.out, hb.out⟩
  rw [show (decide (44032 ≤ r) && decide (r ≤ 55203)) = false by simp; omega] at hsyl
  by_cases h2 : 0xFF01 ≤ r ∧ r ≤ 0xFF5E
  · have hf := Dcp.full_wide h2
    obtain ⟨h2a, h2b⟩ := h2
    rw [show (decide (65281 ≤ r) && decide (r ≤ 65374)) = true by simp [h2a, h2b]] at hwid
    replace hsyl := Lib.hid hsyl
    replace hwid := Lib.hid hwid
    clear h1
    rw [hf]
    clear hf
    go_enter Tryd.func12, Tryd.ntmps12
    go_wp2_with fail
    refine (hsyl.out _).mono ?_
    rintro e w1 ⟨rfl, rfl⟩
    go_wp2_with fail
    refine (hwid.out _).mono ?_
    rintro e w1 ⟨rfl, rfl⟩
    go_wp2_with fail
    go_ret
    exact ⟨_, rfl, ownI_lit _ _ [r - 65248] _ _ 1 rfl (Nat.le_refl _) rfl rfl (by unfold maxLen; omega), below_new _ _⟩
  rw [show (decide (65281 ≤ r) && decide (r ≤ 65374)) = false by simp; omega] at hwid
  replace hsyl := Lib.hid hsyl
  replace hwid := Lib.hid hwid
  have hfind := dfind_any r
  cases hlk : Lk.look Dcp.T r with
  | none =>
    have hf : Dcp.fullI r = [r] := by unfold Dcp.fullI; rw [if_neg h1, if_neg h2, hlk]; rfl
    rw [hf]
    clear hf h1 h2
    replace hlk := Lib.hid hlk
    replace hfind := Lib.hid hfind
    go_enter Tryd.func12, Tryd.ntmps12
    go_wp2_with fail
    refine (hsyl.out _).mono ?_
    rintro e w1 ⟨rfl, rfl⟩
    go_wp2_with fail
    refine (hwid.out _).mono ?_
    rintro e w1 ⟨rfl, rfl⟩
    go_wp2_with fail
    refine (hfind.out _).mono ?_
    rintro e w1 ⟨s, rfl, _, hb⟩
    rw [hlk.out]
    replace hb := Lib.hid hb
    go_wp2_with fail
    go_ret
    exact ⟨_, rfl, ownI_lit _ _ [r] _ _ 1 rfl hb.out.size rfl rfl (by unfold maxLen; omega), hb.out.alloc hb.out.size _⟩
  | some p =>
    have hf : Dcp.fullI r = p := by unfold Dcp.fullI; rw [if_neg h1, if_neg h2, hlk]; rfl
    rw [hf]
    clear hf h1 h2
    replace hlk := Lib.hid hlk
    replace hfind := Lib.hid hfind
    go_enter Tryd.func12, Tryd.ntmps12
    go_wp2_with fail
    refine (hsyl.out _).mono ?_
    rintro e w1 ⟨rfl, rfl⟩
    go_wp2_with fail
    refine (hwid.out _).mono ?_
    rintro e w1 ⟨rfl, rfl⟩
    go_wp2_with fail
    refine (hfind.out _).mono ?_
    rintro e w1 ⟨s, rfl, hs, hb⟩
    obtain ⟨hs1, hs2⟩ := hs p hlk.out
    have hmade := made_any s hs1
    rw [hs2] at hmade
    rw [hlk.out]
    replace hb := Lib.hid hb
    replace hmade := Lib.hid hmade
    clear hs1 hs2 hs
    go_wp2_with fail
    refine (hmade.out _).mono ?_
    rintro e w2 ⟨v, rfl, hv, hb2⟩
    replace hv := Lib.hid (ownI_mono hv hb.out.size)
    replace hb2 := Lib.hid (hb.out.trans (hb2.mono hb.out.size))
    go_wp2_with fail
    go_ret
    exact ⟨_, rfl, hv.out, hb2.out⟩

/-- is it made of something else? -/
def isB (r : Int) : Bool := (Lk.look Dcp.T r).isSome || (decide (44032 ≤ r) && decide (r ≤ 55203)) || (decide (65281 ≤ r) && decide (r ≤ 65374))

set_option maxHeartbeats 1600000 in
theorem is_any (r : Int) (w : World) :
    Calls Tryd.prog 15 #[.int .i64 r] w fun e w' => e = .returned (.bool (isB r)) ∧ Below w.heap.size w w' := by
  have hsyl := syllable_any r
  have hwid := wide_any r
  have hfind := Lib.hid (dfind_any r)
  unfold isB
  obtain ⟨a, ha⟩ : ∃ a, (Lk.look Dcp.T r).isSome = a := ⟨_, rfl⟩
  obtain ⟨b, hb⟩ : ∃ b, (decide (44032 ≤ r) && decide (r ≤ 55203)) = b := ⟨_, rfl⟩
  obtain ⟨c, hc⟩ : ∃ c, (decide (65281 ≤ r) && decide (r ≤ 65374)) = c := ⟨_, rfl⟩
  rw [ha, hb, hc]
  rw [hb] at hsyl
  rw [hc] at hwid
  replace hsyl := Lib.hid hsyl
  replace hwid := Lib.hid hwid
  clear hb hc
  replace ha := Lib.hid ha
  cases a with
  | true =>
    go_enter Tryd.func15, Tryd.ntmps15
    go_wp2_with fail
    refine (hfind.out _).mono ?_
    rintro e w1 ⟨s, rfl, _, hb⟩
    rw [ha.out]
    replace hb := Lib.hid hb
    go_wp2_with fail
    go_ret
    exact ⟨rfl, hb.out⟩
  | false =>
    cases b with
    | true =>
      go_enter Tryd.func15, Tryd.ntmps15
      go_wp2_with fail
      refine (hfind.out _).mono ?_
      rintro e w1 ⟨s, rfl, _, hb⟩
      rw [ha.out]
      replace hb := Lib.hid hb
      go_wp2_with fail
      refine (hsyl.out _).mono ?_
      rintro e w1 ⟨rfl, rfl⟩
      go_wp2_with fail
      go_ret
      exact ⟨rfl, hb.out⟩
    | false =>
      go_enter Tryd.func15, Tryd.ntmps15
      go_wp2_with fail
      refine (hfind.out _).mono ?_
      rintro e w1 ⟨s, rfl, _, hb⟩
      rw [ha.out]
      replace hb := Lib.hid hb
      go_wp2_with fail
      refine (hsyl.out _).mono ?_
      rintro e w1 ⟨rfl, rfl⟩
      go_wp2_with fail
      refine (hwid.out _).mono ?_
      rintro e w1 ⟨rfl, rfl⟩
      go_wp2_with fail
      go_ret
      exact ⟨by simp, hb.out⟩

end Go.Proofs.YtgahfbcdnbhikaaDoor
