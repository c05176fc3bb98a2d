/- Layer 5: the document's Join and Back. -/
import Derived.Test.YtgahfbcdnbhikaaDoorPaR1
import Derived.Test.YtgahfbcdnbhikaaDoorPaA5
namespace Go.Proofs.YtgahfbcdnbhikaaDoor
open Go.RowKit Go.Lib

/-- what the document finds of two values -/
theorem rfind_join (a b : Int) (w : World) :
    Calls Tryd.prog 20 #[.int .i64 a, .int .i64 b, .int .i64 (-1)] w fun e w' => ∃ x y : Int, e = .returned (.tuple #[.int .i64 x, .int .i64 y, .int .i64 ((Par.lookJ Par.T a b).getD 0)]) ∧ w = w' := by
  refine (rpfind_any a b (-1) w).mono ?_
  rintro e w' ⟨rfl, rfl⟩
  have h : testB a b (-1) = fun x y _ => decide (x = a ∧ y = b) := by
    funext x y v
    unfold testB
    rw [if_pos (by decide)]
  rw [Par.scan_eq, ptabS_rows, h]
  exact ⟨_, _, by rw [← Par.first_join]; rfl, rfl⟩

theorem rfind_back (r : Int) (hr : 0 < r) (w : World) :
    Calls Tryd.prog 20 #[.int .i64 0, .int .i64 0, .int .i64 r] w fun e w' => e = .returned (tri (match Par.lookB Par.T r with | some (a, b) => (a, b, r) | none => (0, 0, 0))) ∧ w = w' := by
  refine (rpfind_any 0 0 r w).mono ?_
  rintro e w' ⟨rfl, rfl⟩
  have h : testB 0 0 r = fun _ _ v => decide (v = r) := by
    funext x y v
    unfold testB
    rw [if_neg (by omega)]
  rw [Par.scan_eq, ptabS_rows, h, Par.first_back _ _ (by omega)]
  exact ⟨rfl, rfl⟩

set_option maxHeartbeats 3200000 in
theorem rjoin_no (a b : Int) (w : World) (h1 : ¬ Par.LV a b) (h2 : ¬ Par.LVT a b) :
    Calls Tryd.prog 9 #[.int .i64 a, .int .i64 b] w fun e w' => e = .returned (optI (Par.lookJ Par.T a b)) ∧ w = w' := by
  have hf := rfind_join a b
  have hpos : ∀ z, Par.lookJ Par.T a b = some z → 0 < z := fun z h => (Par.rows_bd _ (Par.lookJ_mem h)).2.2.2.2.1
  unfold Par.LV at h1
  unfold Par.LVT at h2
  obtain ⟨o, ho⟩ : ∃ o, Par.lookJ Par.T a b = o := ⟨_, rfl⟩
  rw [ho] at hf hpos ⊢
  clear ho
  obtain ⟨z, hz⟩ : ∃ z, o.getD 0 = z := ⟨_, rfl⟩
  rw [hz] at hf
  replace hf := Lib.hid hf
  have hzo : optI o = .tuple #[.int .i64 z, .bool (decide (0 < z))] := by
    cases o with
    | none => subst hz; rfl
    | some x => obtain rfl : x = z := hz; unfold optI; simp [hpos x rfl]
  rw [hzo]
  clear hzo hz hpos
  obtain ⟨s, hs⟩ : ∃ s, a - 44032 = s := ⟨_, rfl⟩
  replace hs := Lib.hid hs
  rcases Int.lt_or_le a 4352 with c | c
  · have e1 : decide (4352 ≤ a) = false := decide_eq_false (by omega)
    have e5 : decide (44032 ≤ a) = false := decide_eq_false (by omega)
    clear h1 h2 c
    go_enter Tryd.func9, Tryd.ntmps9
    go_wp2_with fail
    refine (hf.out _).mono ?_
    rintro e w1 ⟨x, y, rfl, rfl⟩
    go_wp2_with fail
    go_ret2
    exact ⟨rfl, rfl⟩
  rcases Int.lt_or_le 4370 a with d | d
  · have e1 : decide (a ≤ 4370) = false := decide_eq_false (by omega)
    rcases Int.lt_or_le a 44032 with k | k
    · have e5 : decide (44032 ≤ a) = false := decide_eq_false (by omega)
      clear h1 h2 d k
      go_enter Tryd.func9, Tryd.ntmps9
      go_wp2_with fail
      refine (hf.out _).mono ?_
      rintro e w1 ⟨x, y, rfl, rfl⟩
      go_wp2_with fail
      go_ret2
      exact ⟨rfl, rfl⟩
    rcases Int.lt_or_le 55203 a with m | m
    · have e5 : decide (a ≤ 55203) = false := decide_eq_false (by omega)
      clear h1 h2 d m
      go_enter Tryd.func9, Tryd.ntmps9
      go_wp2_with fail
      refine (hf.out _).mono ?_
      rintro e w1 ⟨x, y, rfl, rfl⟩
      go_wp2_with fail
      go_ret2
      exact ⟨rfl, rfl⟩
    have hs0 : 0 ≤ s := by have := hs.out; omega
    have hs1 : s < 11172 := by have := hs.out; omega
    by_cases q : s % 28 = 0
    · rcases Int.lt_or_le b 4520 with u | u
      · have e6 : decide (4520 ≤ b) = false := decide_eq_false (by omega)
        clear h1 h2 d u
        have hs := hs.out
        go_enter Tryd.func9, Tryd.ntmps9
        go_wp2_with fail
        refine (hf.out _).mono ?_
        rintro e w1 ⟨x, y, rfl, rfl⟩
        go_wp2_with fail
        go_ret2
        exact ⟨rfl, rfl⟩
      · have e6 : decide (b ≤ 4546) = false := decide_eq_false (by have := hs.out; omega)
        clear h1 h2 d
        have hs := hs.out
        go_enter Tryd.func9, Tryd.ntmps9
        go_wp2_with fail
        refine (hf.out _).mono ?_
        rintro e w1 ⟨x, y, rfl, rfl⟩
        go_wp2_with fail
        go_ret2
        exact ⟨rfl, rfl⟩
    · have e6 : (s % 28 == 0) = false := beq_eq_false_iff_ne.2 q
      clear h1 h2 d q
      have hs := hs.out
      go_enter Tryd.func9, Tryd.ntmps9
      go_wp2_with fail
      refine (hf.out _).mono ?_
      rintro e w1 ⟨x, y, rfl, rfl⟩
      go_wp2_with fail
      go_ret2
      exact ⟨rfl, rfl⟩
  have e5 : decide (44032 ≤ a) = false := decide_eq_false (by omega)
  rcases Int.lt_or_le b 4449 with u | u
  · have e6 : decide (4449 ≤ b) = false := decide_eq_false (by omega)
    clear h1 h2 u
    go_enter Tryd.func9, Tryd.ntmps9
    go_wp2_with fail
    refine (hf.out _).mono ?_
    rintro e w1 ⟨x, y, rfl, rfl⟩
    go_wp2_with fail
    go_ret2
    exact ⟨rfl, rfl⟩
  · have e6 : decide (b ≤ 4469) = false := decide_eq_false (by omega)
    clear h1 h2
    go_enter Tryd.func9, Tryd.ntmps9
    go_wp2_with fail
    refine (hf.out _).mono ?_
    rintro e w1 ⟨x, y, rfl, rfl⟩
    go_wp2_with fail
    go_ret2
    exact ⟨rfl, rfl⟩

theorem ret_optI {x y : Int} (h : x = y) : Ending.returned (.tuple #[.int .i64 x, .bool true]) = .returned (optI (some y)) := by rw [h]; rfl

set_option maxHeartbeats 3200000 in
theorem rjoin_any (a b : Int) (w : World) :
    Calls Tryd.prog 9 #[.int .i64 a, .int .i64 b] w fun e w' => e = .returned (optI (Par.joinI a b)) ∧ w = w' := by
  unfold Par.joinI
  by_cases h1 : Par.LV a b
  · rw [if_pos h1]
    unfold Par.LV at h1
    obtain ⟨c1, c2, c3, c4⟩ := h1
    go_enter Tryd.func9, Tryd.ntmps9
    go_wp2_with fail
    go_ret2
    exact ⟨ret_optI (by omega), rfl⟩
  rw [if_neg h1]
  by_cases h2 : Par.LVT a b
  · rw [if_pos h2]
    unfold Par.LVT at h2
    obtain ⟨c1, c2, c3, c4, c5⟩ := h2
    have e1 : decide (a ≤ 4370) = false := decide_eq_false (by omega)
    clear h1
    obtain ⟨s, hs⟩ : ∃ s, a - 44032 = s := ⟨_, rfl⟩
    have hs0 : 0 ≤ s := by omega
    have hs1 : s < 11172 := by omega
    have c3' : s % 28 = 0 := by omega
    clear c3
    go_enter Tryd.func9, Tryd.ntmps9
    go_wp2_with fail
    go_ret2
    exact ⟨ret_optI (by omega), rfl⟩
  rw [if_neg h2]
  exact rjoin_no a b w h1 h2

theorem ret_optII {x y a b : Int} (h : x = a) (h' : y = b) : Ending.returned (.tuple #[.int .i64 x, .int .i64 y, .bool true]) = .returned (optII (some (a, b))) := by rw [h, h']; rfl

set_option maxHeartbeats 3200000 in
theorem rback_any (r : Int) (w : World) :
    Calls Tryd.prog 11 #[.int .i64 r] w fun e w' => e = .returned (optII (Par.backI r)) ∧ w = w' := by
  unfold Par.backI
  by_cases h1 : Par.Syl r
  · rw [if_pos h1]
    unfold Par.Syl at h1
    obtain ⟨c1, c2⟩ := h1
    unfold Par.sylB
    obtain ⟨s, hs⟩ : ∃ s, r - 44032 = s := ⟨_, rfl⟩
    rw [show r - 0xAC00 = s from hs]
    have hs0 : 0 ≤ s := by omega
    have hs1 : s < 11172 := by omega
    have hrs : r = 44032 + s := by omega
    replace hrs := Lib.hid hrs
    by_cases h2 : s % 28 = 0
    · rw [if_pos h2]
      go_enter Tryd.func11, Tryd.ntmps11
      go_wp2_with fail
      refine bodyPost_ret (v := .tuple #[.int .i64 (4352 + s / 588), .int .i64 (4449 + s % 588 / 28), .bool true]) (by simp [results, Tryd.results11, go_sem]) rfl ⟨rfl, rfl⟩
    · rw [if_neg h2]
      have h2' : (s % 28 == 0) = false := beq_eq_false_iff_ne.2 h2
      have hlt : s % 28 < 28 := by omega
      have hge : 0 ≤ s % 28 := by omega
      clear h2
      go_enter Tryd.func11, Tryd.ntmps11
      go_wp2_with fail
      refine bodyPost_ret (v := .tuple #[.int .i64 (r - s % 28), .int .i64 (4519 + s % 28), .bool true]) (by simp [results, Tryd.results11, go_sem]) rfl ⟨ret_optII (by have := hrs.out; omega) rfl, rfl⟩
  rw [if_neg h1]
  unfold Par.Syl at h1
  by_cases h0 : r ≤ 0
  · have hn : Par.lookB Par.T r = none := Par.lookB_none fun s hs e => by have := Par.rows_bd s hs; omega
    rw [hn]
    have e1 : decide (44032 ≤ r) = false := decide_eq_false (by omega)
    clear h1 hn
    go_enter Tryd.func11, Tryd.ntmps11
    go_wp2_with fail
    exact bodyPost_ret (v := .tuple #[.int .i64 0, .int .i64 0, .bool false]) (by simp [results, Tryd.results11, go_sem]) rfl ⟨rfl, rfl⟩
  · have hr0 : 0 < r := by omega
    have hr1 : decide (r ≤ 0) = false := decide_eq_false h0
    have hf := rfind_back r hr0
    clear h0
    rcases Int.lt_or_le r 44032 with c | c
    · have e1 : decide (44032 ≤ r) = false := decide_eq_false (by omega)
      clear h1
      cases hl : Par.lookB Par.T r with
      | none =>
        rw [hl] at hf
        unfold tri at hf
        dsimp only at hf
        replace hf := Lib.hid hf
        replace hl := Lib.hid hl
        go_enter Tryd.func11, Tryd.ntmps11
        go_wp2_with fail
        refine (hf.out _).mono ?_
        rintro e w1 ⟨rfl, rfl⟩
        go_wp2_with fail
        exact bodyPost_ret (v := .tuple #[.int .i64 0, .int .i64 0, .bool false]) (by simp [results, Tryd.results11, go_sem]) rfl ⟨rfl, rfl⟩
      | some p =>
        obtain ⟨a, b⟩ := p
        rw [hl] at hf
        unfold tri at hf
        dsimp only at hf
        replace hf := Lib.hid hf
        replace hl := Lib.hid hl
        go_enter Tryd.func11, Tryd.ntmps11
        go_wp2_with fail
        refine (hf.out _).mono ?_
        rintro e w1 ⟨rfl, rfl⟩
        go_wp2_with fail
        exact bodyPost_ret (v := .tuple #[.int .i64 a, .int .i64 b, .bool true]) (by simp [results, Tryd.results11, go_sem]) rfl ⟨rfl, rfl⟩
    · have e1 : decide (r ≤ 55203) = false := decide_eq_false (by omega)
      have hn : Par.lookB Par.T r = none := Par.lookB_none fun s hs e => by have := Par.rows_far s hs; omega
      clear h1
      rw [hn] at hf ⊢
      unfold tri at hf
      dsimp only at hf
      replace hf := Lib.hid hf
      clear hn
      go_enter Tryd.func11, Tryd.ntmps11
      go_wp2_with fail
      refine (hf.out _).mono ?_
      rintro e w1 ⟨rfl, rfl⟩
      go_wp2_with fail
      exact bodyPost_ret (v := .tuple #[.int .i64 0, .int .i64 0, .bool false]) (by simp [results, Tryd.results11, go_sem]) rfl ⟨rfl, rfl⟩

end Go.Proofs.YtgahfbcdnbhikaaDoor
