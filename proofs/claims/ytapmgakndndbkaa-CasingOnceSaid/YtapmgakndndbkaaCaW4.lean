/- Layer 6: the walk of CasingOnce. -/
import Derived.Test.YtapmgakndndbkaaCaW1
import Derived.Test.YtapmgakndndbkaaA0
namespace Go.Proofs.Ytapmgakndndbkaa
open Go.RowKit Go.Lib

theorem rows_bd6 : ∀ s ∈ Cas.T, ∀ x ∈ s.2, -9223372036854775808 ≤ x ∧ x ≤ 9223372036854775807 := by decide +kernel
theorem good_of (r : Int) (c : Bool) (h : Dec.goodB r = c) (w : World) : Calls Try.prog 13 #[.int .i64 r] w fun e w' => e = .returned (.bool c) ∧ w = w' := h ▸ good_any r w

set_option maxHeartbeats 6400000 in
theorem casingOnce_walk (r : Int) (w : World) (hr : -9223372036854775808 ≤ r ∧ r ≤ 9223372036854775807) :
    Calls Try.prog 4 #[.int .i64 r] w fun e w' => e = .returned (.bool true) ∧ Below w.heap.size w w' := by
  have hlen := Cas.fold_len r
  have hgd := @Cas.fold_good r
  have hf := fun W => fold_any r W hr.1 hr.2
  have hall := Cas.all_fold r
  have hbnd : ∀ x ∈ Cas.foldI r, -9223372036854775808 ≤ x ∧ x ≤ 9223372036854775807 := by
    rcases Cas.fold_cases r with h | h
    · rw [h]; intro x hx; rw [List.mem_singleton.1 hx]; exact hr
    · exact fun x hx => rows_bd6 _ h x hx
  obtain ⟨gr, hgr⟩ : ∃ gr, Dec.goodB r = gr := ⟨_, rfl⟩
  have hcase : ∃ n x0, (Cas.foldI r).length = n ∧ (Cas.foldI r)[0]? = some x0 ∧
      ((((n : Int) != 1) = false ∧ x0 = r + 32 ∧ wrap64 (r + 32) = r + 32 ∧ decide (65 ≤ r) = true ∧ decide (r ≤ 90) = true ∧ decide (0 ≤ r) = true ∧ decide (r < 128) = true ∧ decide (r < 65) = false ∧ decide (90 < r) = false) ∨
       (x0 = r ∧ decide (65 ≤ r) = false ∧ decide (r ≤ 90) = true ∧ decide (0 ≤ r) = true ∧ decide (r < 128) = true ∧ decide (r < 65) = true ∧ decide (90 < r) = false) ∨
       (x0 = r ∧ decide (65 ≤ r) = true ∧ decide (r ≤ 90) = false ∧ decide (0 ≤ r) = true ∧ decide (r < 128) = true ∧ decide (r < 65) = false ∧ decide (90 < r) = true) ∨
       (decide (65 ≤ r) = false ∧ decide (0 ≤ r) = false) ∨
       (decide (65 ≤ r) = true ∧ decide (r ≤ 90) = false ∧ decide (0 ≤ r) = true ∧ decide (r < 128) = false)) := by
    refine ⟨_, (Cas.foldI r)[0]'(by omega), rfl, by simp, ?_⟩
    rcases Int.lt_or_le r 0 with h0 | h0
    · exact .inr (.inr (.inr (.inl ⟨decide_eq_false (by omega), decide_eq_false (by omega)⟩)))
    rcases Int.lt_or_le r 128 with h1 | h1
    · have ha := Cas.ascii r h0 h1
      by_cases h2 : 65 ≤ r ∧ r ≤ 90
      · rw [if_pos h2] at ha
        exact .inl ⟨by rw [ha]; rfl, by simp [ha], by unfold wrap64; omega, decide_eq_true (by omega), decide_eq_true (by omega), decide_eq_true (by omega), decide_eq_true (by omega), decide_eq_false (by omega), decide_eq_false (by omega)⟩
      · rw [if_neg h2] at ha
        rcases Int.lt_or_le r 65 with h3 | h3
        · exact .inr (.inl ⟨by simp [ha], decide_eq_false (by omega), decide_eq_true (by omega), decide_eq_true (by omega), decide_eq_true (by omega), decide_eq_true (by omega), decide_eq_false (by omega)⟩)
        · exact .inr (.inr (.inl ⟨by simp [ha], decide_eq_true (by omega), decide_eq_false (by omega), decide_eq_true (by omega), decide_eq_true (by omega), decide_eq_false (by omega), decide_eq_true (by omega)⟩))
    · exact .inr (.inr (.inr (.inr ⟨decide_eq_true (by omega), decide_eq_false (by omega), decide_eq_true (by omega), decide_eq_false (by omega)⟩)))
  obtain ⟨n, x0, hn, hx0, hcase⟩ := hcase
  obtain ⟨F, hF⟩ : ∃ F, Cas.foldI r = F := ⟨_, rfl⟩
  rw [hF] at hlen hgd hf hall hn hx0 hbnd
  rw [hn] at hlen
  obtain ⟨hn1, hn3⟩ := hlen
  have t1 : decide ((n : Int) < 1) = false := decide_eq_false (by omega)
  have t2 : decide ((3 : Int) < (n : Int)) = false := decide_eq_false (by omega)
  have hgood := Lib.hid (good_of r gr hgr)
  have hcond := Lib.hid (fun (y : Int) (hy : y ∈ F) (h : gr = true) => hgd (hgr.trans h) y hy)
  have hAll := Lib.hid (fun v W h => all_of v F F W hall (by omega) h hbnd)
  replace hf := Lib.hid hf
  replace hn := Lib.hid hn
  replace hx0 := Lib.hid hx0
  clear hgd hgr hall hbnd hr hF
  rcases hcase with ⟨g0, rfl, g1, g2, g3, g4, g5, g6, g7⟩ | ⟨rfl, g2, g3, g4, g5, g6, g7⟩ | ⟨rfl, g2, g3, g4, g5, g6, g7⟩ | ⟨g2, g3⟩ | ⟨g2, g3, g4, g5⟩
  all_goals
    go_enter Try.func4, Try.ntmps4
    go_wp2_with fail
    refine (awake6 w).mono ?_
    rintro e w1 ⟨rfl, hb1⟩
    replace hb1 := Lib.hid hb1
    go_wp2_with fail
    refine (hf.out _).mono ?_
    rintro e w2 ⟨v, rfl, o2, hb2⟩
    replace hb2 := Lib.hid (below_on hb1.out hb2)
    have hri := Lib.hid (ri_of_own o2)
    obtain ⟨b, cap, rfl, hB, hl2, hcell⟩ := ownI_open o2 (by rw [hn.out]; omega)
    rw [hn.out] at hri ⊢
    have c0 := Lib.hid (hcell 0 (by rw [hn.out]; omega))
    have hx : F[0]'(by rw [hn.out]; omega) = _ := Option.some.inj ((List.getElem?_eq_getElem (by rw [hn.out]; omega)).symm.trans hx0.out)
    rw [hx] at c0
    replace hcell := Lib.hid hcell
    clear hx o2
    go_wp2_with fail
    go_loopg [5] n (fun g vi wr => ∃ k : Nat, k ≤ n ∧ vi = .int .i64 k ∧ g = n - k ∧ wr = w2)
    case atStart => exact ⟨0, Nat.zero_le _, rfl, rfl, rfl⟩
    case round =>
      obtain ⟨k, hk, rfl, rfl, rfl⟩ := hrel
      by_cases hlt : k < n
      · have hlt' : decide ((k : Int) < (n : Int)) = true := decide_eq_true (by omega)
        have hkF : k < F.length := by rw [hn.out]; exact hlt
        have hc := hcell.out k hkF
        have hgy := fun h => hcond.out _ (List.getElem_mem hkF) h
        obtain ⟨y, hy⟩ : ∃ y, F[k] = y := ⟨_, rfl⟩
        rw [hy] at hc hgy
        clear hy hkF
        cases gr with
        | false =>
          clear hgy
          go_wp2_with fail
          refine (hgood.out _).mono ?_
          rintro e w3 ⟨rfl, rfl⟩
          go_wp2_with fail
          go_roundg (n - (k + 1))
          case measure => omega
          case rel => exact ⟨k + 1, by omega, by go_num, rfl, rfl⟩
        | true =>
          have hgy' := Lib.hid (good_of y true (hgy rfl))
          clear hgy
          go_wp2_with fail
          refine (hgood.out _).mono ?_
          rintro e w3 ⟨rfl, rfl⟩
          go_wp2_with fail
          refine (hgy'.out _).mono ?_
          rintro e w3 ⟨rfl, rfl⟩
          go_wp2_with fail
          go_roundg (n - (k + 1))
          case measure => omega
          case rel => exact ⟨k + 1, by omega, by go_num, rfl, rfl⟩
      · have hlt' : decide (k < n) = false := decide_eq_false hlt
        have d0 := c0.out
        clear hcell
        go_wp2_with fail
        refine (hAll.out _ _ hri.out).mono ?_
        rintro e w3 ⟨v3, rfl, o3, hb3⟩
        have r3 := Lib.hid (ri_of_own o3)
        have h3 := Lib.hid (ri_below hri.out hb3)
        replace hb3 := Lib.hid (below_on hb2.out hb3)
        clear o3
        go_wp2_with fail
        refine (same_self _ _ F _ (by rw [hn.out]; omega) r3.out h3.out).mono ?_
        rintro e w4 ⟨rfl, hb4⟩
        replace hb4 := Lib.hid (below_on hb3.out hb4)
        go_wp2_with fail
        go_ret
        exact ⟨rfl, hb4.out⟩

end Go.Proofs.Ytapmgakndndbkaa
