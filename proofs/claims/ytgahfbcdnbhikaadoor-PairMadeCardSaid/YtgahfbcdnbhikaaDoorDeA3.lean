/- Layer 4: the search. -/
import Derived.Test.YtgahfbcdnbhikaaDoorDeA2
namespace Go.Proofs.YtgahfbcdnbhikaaDoor
open Go.RowKit Go.Lib

/-- the number of row k -/
theorem row_parts (k : Nat) (hk : k < 374) : ∃ h : k < Dcp.T.length, (rowB k).size = 25 ∧ Dcp.numF ((rowB k).data.toList.take 4) = Dcp.T[k].1 ∧ Dcp.madeF (rowB k).data.toList 4 0 = Dcp.T[k].2 := by
  have h : k < Dcp.T.length := by rw [Dcp.rows]; exact hk
  obtain ⟨h1, h2, h3⟩ := Dcp.okRow_parts (Dcp.okAll_at rowS_ok k h)
  rw [← rowB_list] at h1 h2 h3
  exact ⟨h, by simpa using h1, h2, h3⟩


theorem cmp_any (a b : Int) (w : World) : Calls Tryd.prog 37 #[.int .i64 a, .int .i64 b] w fun e w' => e = .returned (.int .i64 (Lib.compareInt a b)) ∧ w = w' :=
  (Tryd.cmp_Compare_int a b w).mono fun _ _ h => ⟨h.1, h.2.symm⟩

set_option maxHeartbeats 800000 in
/-- what is handed to the search -/
theorem side_find (r : Int) (k : Nat) (hk : k < 374) (x : Int) (hx : (Dcp.T[k]'(by rw [Dcp.rows]; exact hk)).1 = x) (b : Nat) (w : World) (hc : w.cell? ⟨b, 0, none⟩ = some (.int .i64 r)) :
    Calls Tryd.prog 36 #[.int .i64 k, .pointer (some ⟨b, 0, none⟩)] w fun e w' => e = .returned (.int .i64 (Lib.compareInt r x)) ∧ ∃ n, w' = w.drewN n := by
  obtain ⟨h, hsz, hn, _⟩ := row_parts k hk
  have h4 : 4 ≤ (rowB k).size := by omega
  have h100 : (rowB k).size ≤ 100 := by omega
  rw [hx] at hn
  have hrow := Lib.hid (row_any k hk)
  have hnum := number_any (rowB k) h4 h100
  rw [hn] at hnum
  replace hnum := Lib.hid hnum
  obtain ⟨s, hs⟩ : ∃ s, rowB k = s := ⟨_, rfl⟩
  rw [hs] at hrow hnum
  clear hs hn hsz h4 h100 hx
  go_enter Tryd.func36, Tryd.ntmps36
  go_wp2_with fail
  go_quiet ((first | (go_at_call 39; exact quiet_mine (hrow.out _)) | (go_at_call 38; exact quiet_mine (hnum.out _)) | (go_at_call 37; exact quiet_mine (cmp_any _ _ _))))
  go_wp2_with fail
  go_ret
  exact ⟨rfl, _, rfl⟩

theorem cmp_pos (a b : Int) : 0 < Lib.compareInt a b ↔ b < a := by unfold Lib.compareInt; split <;> (try split) <;> omega
theorem cmp_zero (a b : Int) : Lib.compareInt a b = 0 ↔ a = b := by unfold Lib.compareInt; split <;> (try split) <;> omega

/-- what a search comes to -/
def FindRes (r : Int) (w : World) (e : Ending) (w' : World) : Prop :=
  e = .returned (.tuple #[.int .i64 (Lk.pos Dcp.T r : Int), .bool (Lk.look Dcp.T r).isSome]) ∧ ∃ n, w' = w.drewN n

set_option maxHeartbeats 1600000 in
theorem sfind_any (r : Int) (b : Nat) (w : World) (hc : w.cell? ⟨b, 0, none⟩ = some (.int .i64 r)) :
    Calls Tryd.prog 35 #[.int .i64 374, .func (.func 36) #[] #[.pointer (some ⟨b, 0, none⟩)]] w (FindRes r w) := by
  have hpl := Lk.pos_le Dcp.T r
  rw [Dcp.rows] at hpl
  obtain ⟨p, hp⟩ : ∃ p, Lk.pos Dcp.T r = p := ⟨_, rfl⟩
  rw [hp] at hpl
  replace hp := Lib.hid hp
  replace hc := Lib.hid hc
  go_enter Tryd.func35, Tryd.ntmps35
  go_wp2_with fail
  go_loopg [4, 6] 374 (fun g i j wr => ∃ x y : Nat, i = .int .i64 x ∧ j = .int .i64 y ∧ x ≤ p ∧ p ≤ y ∧ y ≤ 374 ∧ g = y - x ∧ ∃ d, wr = w.drewN d)
  case atStart => exact ⟨0, 374, rfl, rfl, Nat.zero_le _, hpl, Nat.le_refl _, rfl, 0, rfl⟩
  case round =>
    obtain ⟨x, y, rfl, rfl, hx, hy, hyl, rfl, d, rfl⟩ := hrel
    by_cases hlt : x < y
    · have hlt' : (x : Int) < (y : Int) := by omega
      have hk : (x + y) / 2 < 374 := by omega
      obtain ⟨q, hq⟩ : ∃ q, (Dcp.T[(x + y) / 2]'(by rw [Dcp.rows]; exact hk)).1 = q := ⟨_, rfl⟩
      have hpos := Lk.pos_lt_iff Dcp.up r ((x + y) / 2) (by rw [Dcp.rows]; exact hk)
      rw [hq, hp.out] at hpos
      have hside := Lib.hid (side_find r _ hk q hq b (w.drewN d) (drewN_cell d hc.out))
      replace hq := Lib.hid hq
      have hcp := cmp_pos r q
      obtain ⟨c, hcc⟩ : ∃ c, Lib.compareInt r q = c := ⟨_, rfl⟩
      rw [hcc] at hside hcp
      clear hcc
      by_cases hB : q < r
      · have hkp := hpos.1 hB
        have hv : 0 < c := hcp.2 hB
        clear hpos hcp
        go_wp2_with fail
        refine hside.out.mono ?_
        rintro e w1 ⟨rfl, n, rfl⟩
        go_wp2_with fail
        go_roundg (y - ((x + y) / 2 + 1))
        case measure => omega
        case rel => exact ⟨(x + y) / 2 + 1, y, by go_num, rfl, by omega, hy, hyl, rfl, _, rfl⟩
      · have hkp : ¬ (x + y) / 2 < p := fun h => hB (hpos.2 h)
        have hv : decide (0 < c) = false := decide_eq_false fun h => hB (hcp.1 h)
        clear hpos hcp
        go_wp2_with fail
        refine hside.out.mono ?_
        rintro e w1 ⟨rfl, n, rfl⟩
        go_wp2_with fail
        go_roundg ((x + y) / 2 - x)
        case measure => omega
        case rel => exact ⟨x, (x + y) / 2, rfl, by go_num, hx, by omega, by omega, rfl, _, rfl⟩
    · obtain rfl : x = p := by omega
      have hlt' : decide ((x : Int) < (y : Int)) = false := by simp; omega
      by_cases hxn : x < 374
      · have hxn' : (x : Int) < 374 := by omega
        have hxT : x < Dcp.T.length := by rw [Dcp.rows]; exact hxn
        obtain ⟨q, hq⟩ : ∃ q, (Dcp.T[x]'hxT).1 = q := ⟨_, rfl⟩
        have hside := Lib.hid (side_find r _ hxn q hq b (w.drewN d) (drewN_cell d hc.out))
        have hcz := cmp_zero r q
        obtain ⟨c, hcc⟩ : ∃ c, Lib.compareInt r q = c := ⟨_, rfl⟩
        rw [hcc] at hside hcz
        clear hcc
        by_cases hA : r = q
        · have hv : c = 0 := hcz.2 hA
          have hlk := Lk.look_yes Dcp.up r (by rw [hp.out]; exact hxT) (by simp only [hp.out]; rw [hq, hA])
          subst hv
          replace hlk := Lib.hid hlk
          replace hq := Lib.hid hq
          clear hcz
          go_wp2_with fail
          refine hside.out.mono ?_
          rintro e w1 ⟨rfl, n, rfl⟩
          go_wp2_with fail
          go_ret2
          exact ⟨by rw [hp.out, hlk.out]; rfl, _, rfl⟩
        · have hv : (c == 0) = false := beq_eq_false_iff_ne.2 fun h => hA (hcz.1 h)
          have hlk := Lk.look_no Dcp.up r (fun _ => by simp only [hp.out]; rw [hq]; exact fun h => hA h.symm)
          replace hlk := Lib.hid hlk
          replace hq := Lib.hid hq
          clear hcz
          go_wp2_with fail
          refine hside.out.mono ?_
          rintro e w1 ⟨rfl, n, rfl⟩
          go_wp2_with fail
          go_ret2
          exact ⟨by rw [hp.out, hlk.out]; rfl, _, rfl⟩
      · have hxn' : decide ((x : Int) < 374) = false := by simp; omega
        have hlk := Lk.look_no Dcp.up r (fun h => absurd h (by rw [hp.out, Dcp.rows]; omega))
        replace hlk := Lib.hid hlk
        go_wp2_with fail
        go_ret2
        exact ⟨by rw [hp.out, hlk.out]; rfl, _, rfl⟩

end Go.Proofs.YtgahfbcdnbhikaaDoor
