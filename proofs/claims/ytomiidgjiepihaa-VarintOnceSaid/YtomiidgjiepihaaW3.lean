/- The walks of layer 2's statements, on: VarintOnce. -/
import Derived.Test.YtomiidgjiepihaaC3
import Derived.Deep.RegionWith
namespace Go.Proofs.Ytomiidgjiepihaa
open Go.RowKit Go.Lib

theorem below_drew_l {w w1 w2 : World} (h1 : Below w.heap.size w w1) (h2 : Below w1.drew.heap.size w1.drew w2) : Below w.heap.size w w2 := h1.drew.trans (h2.mono h1.size)

set_option maxHeartbeats 1600000 in
theorem varintOnce_walk (v : Value) (bs : List UInt8) (w : World) (hr : RBytes w v bs) :
    Calls Try.prog 5 #[v] w fun e w' => e = .returned (.bool true) ∧ Below w.heap.size w w' := by
  obtain ⟨p, cap, rfl⟩ := bytes_form hr
  have hp := bytes_at hr
  have hcap := bytes_cap hr
  replace hr := Lib.hid hr
  rcases Var.take_shape bs with ⟨c, htk, hc1, hc3⟩ | ⟨hs, e, r, hbs, hlen, h1, h2, h3, htk⟩
  · replace htk := Lib.hid htk
    have hc0 : (c != 0) = true := by simp; omega
    clear hp
    go_enter Try.func5, Try.ntmps5
    go_wp2_with fail
    refine (awake_any w).mono ?_
    rintro e w1 ⟨rfl, hb1⟩
    have hr1 := Lib.hid (bytes_below hr.out hb1)
    go_wp2_with fail
    refine (take_any _ _ _ hr1.out).mono ?_
    rintro e w2 ⟨rfl, rfl⟩
    rw [htk.out]
    go_wp2_with fail
    go_ret
    exact ⟨rfl, hb1⟩
  · have hput := Var.put_val hs e h1 h2 h3
    obtain ⟨L, hL⟩ : ∃ L, hs ++ [e] = L := ⟨_, rfl⟩
    have hLl : L.length = hs.length + 1 := by rw [← hL]; simp
    have hbl : L.length ≤ bs.length := by rw [hbs, hLl]; simp
    have htake : bs.take (hs.length + 1) = L := by
      rw [hbs, ← hL, show hs ++ e :: r = (hs ++ [e]) ++ r by simp]
      rw [List.take_append_of_le_length (by simp), List.take_of_length_le (by simp)]
    obtain ⟨b, off, rfl, hb, hc⟩ := hp (by omega)
    have hN4 := val_bound L 0 (by omega)
    rw [hL] at htk hput
    obtain ⟨k, hk⟩ : ∃ k, hs.length + 1 = k := ⟨_, rfl⟩
    rw [hk] at hLl htake
    rw [show (hs.length : Int) + 1 = (k : Int) by omega] at htk
    obtain ⟨N, hN⟩ : ∃ N, Var.valL L = N := ⟨_, rfl⟩
    rw [hN] at htk hput
    rw [List.drop_zero, hN] at hN4
    have hput2 : Var.putI (N : Int) = L := by rw [putI_yes (by omega), hput]
    have hk1 : (1 : Int) ≤ (k : Int) := by omega
    have hk4 : (k : Int) ≤ 4 := by omega
    have hkl : (k : Int) ≤ (bs.length : Int) := by omega
    have hkc : (k : Int) ≤ (cap : Int) := by omega
    have hNi : (N : Int) ≤ 268435455 := by omega
    replace htk := Lib.hid htk
    have hLi : (L.length : Int) = (k : Int) := by omega
    have hrt := Lib.hid (show RBytes w (.slice (some ⟨b, off, none⟩) k cap) L from by
      have := bytes_take (cap' := cap) hr.out k (by omega) (by omega)
      rw [htake] at this
      exact this)
    replace hLi := Lib.hid hLi
    replace hput2 := Lib.hid hput2
    clear hp hc h1 h2 h3 hL hbs hk htake hput hN hLl hbl hb hlen
    go_enter Try.func5, Try.ntmps5
    go_wp2_with fail
    refine (awake_any w).mono ?_
    rintro e w1 ⟨rfl, hb1⟩
    have hr1 := Lib.hid (bytes_below hr.out hb1)
    replace hrt := Lib.hid (bytes_below hrt.out hb1)
    replace hb1 := Lib.hid hb1
    go_wp2_with fail
    refine (take_any _ _ _ hr1.out).mono ?_
    rintro e w2 ⟨rfl, rfl⟩
    rw [htk.out]
    go_wp2_with fail
    have hb0 := run_toStr _ _ w1 hrt.out
    have hb0' := run_toStr _ _ w1.drew hrt.out
    go_region_with (first | (go_at_call 11; refine (put_any _ _).mono ?_; rintro e w2 ⟨v2, rfl, hown2, hb2⟩; rw [hput2.out] at hown2; have hcv := run_toStr v2 _ _ (bytes_of_own hown2); have hcv1 := run_toStr v2 _ w2.drew (bytes_of_own hown2); (first | have hcw := run_toStr _ _ w2 (bytes_below hrt.out hb2) | have hcw := run_toStr _ _ w2 (bytes_below (w := w1.drew) hrt.out hb2))) | (go_at_call 13; refine (size_any _ _).mono ?_; rintro e w3 ⟨rfl, rfl⟩; rw [hput2.out, hLi.out]))
    all_goals go_wp2_with fail
    all_goals go_ret
    all_goals first | exact ⟨rfl, hb1.out.trans (hb2.mono hb1.out.size)⟩ | exact ⟨rfl, below_drew_l hb1.out hb2⟩ | exact ⟨rfl, (hb1.out.trans (hb2.mono hb1.out.size)).drew⟩ | exact ⟨rfl, (below_drew_l hb1.out hb2).drew⟩
end Go.Proofs.Ytomiidgjiepihaa
