/- Layer 1, the document's answer: Good, head, value. -/
import Derived.Test.YtcchcgllgodkhaaDoorA0
import Derived.Test.YtcchcgllgodkhaaDoorMR2
import Derived.Deep.LoopGhost
import Derived.Deep.DeepCutAuto
namespace Go.Proofs.YtcchcgllgodkhaaDoor
open Go.RowKit Go.Lib

set_option maxHeartbeats 400000 in
theorem rgood_any (r : Int) (w : World) :
    Calls Tryd.prog 6 #[.int .i64 r] w fun e w' => e = .returned (.bool (Dec.goodB r)) ∧ w = w' := by
  by_cases h0 : 0 ≤ r
  · by_cases h1 : r ≤ 1114111
    · by_cases h2 : r < 55296
      all_goals
        go_enter Tryd.func6, Tryd.ntmps6
        go_wp2
        go_ret
        exact ⟨ret_bool (by unfold Dec.goodB; grind), rfl⟩
    · go_enter Tryd.func6, Tryd.ntmps6
      go_wp2
      go_ret
      exact ⟨ret_bool (by unfold Dec.goodB; grind), rfl⟩
  · go_enter Tryd.func6, Tryd.ntmps6
    go_wp2
    go_ret
    exact ⟨ret_bool (by unfold Dec.goodB; grind), rfl⟩

/-- what head comes to -/
def HRes (x : Nat) (w : World) (e : Ending) (w' : World) : Prop := e = .returned (.tuple #[.int .i64 ((Dec.headN x).1 : Int), .int .i64 ((Dec.headN x).2 : Int)]) ∧ w = w'

theorem hres_mk {x : Nat} {a b : Nat} {a' b' : Int} {w : World} (h : Dec.headN x = (a, b)) (ha : a' = a) (hb : b' = b) : HRes x w (.returned (.tuple #[.int .i64 a', .int .i64 b'])) w := by
  unfold HRes
  rw [h, ha, hb]
  exact ⟨rfl, rfl⟩

set_option maxHeartbeats 800000 in
theorem head_any (x : Nat) (hx : x < 256) (w : World) :
    Calls Tryd.prog 28 #[.int .i64 (x : Int)] w (HRes x w) := by
  by_cases h1 : x < 128
  · have H := Lib.hid (Dec.head1 h1)
    have h1' : (x : Int) < 128 := by omega
    clear h1
    go_enter Tryd.func28, Tryd.ntmps28
    go_wp2_with fail
    go_ret2
    exact hres_mk H.out rfl rfl
  · have h1' : decide ((x : Int) < 128) = false := by simp; omega
    by_cases h2 : x < 192
    · have H : Hid (Dec.headN x = (0, 0)) := Lib.hid (by unfold Dec.headN; rw [if_neg h1, if_neg (by omega), if_neg (by omega), if_neg (by omega)])
      have h2' : decide ((192 : Int) ≤ (x : Int)) = false := by simp; omega
      have h3' : decide ((224 : Int) ≤ (x : Int)) = false := by simp; omega
      have h4' : decide ((240 : Int) ≤ (x : Int)) = false := by simp; omega
      go_enter Tryd.func28, Tryd.ntmps28
      go_wp2_with fail
      go_ret2
      exact hres_mk H.out rfl rfl
    · have h2' : (192 : Int) ≤ (x : Int) := by omega
      by_cases h3 : x < 224
      · have H := Lib.hid (Dec.head2 ⟨by omega, h3⟩)
        have h3' : (x : Int) < 224 := by omega
        go_enter Tryd.func28, Tryd.ntmps28
        go_wp2_with fail
        go_ret2
        exact hres_mk H.out rfl (by omega)
      · have h3' : decide ((x : Int) < 224) = false := by simp; omega
        have h3'' : (224 : Int) ≤ (x : Int) := by omega
        by_cases h4 : x < 240
        · have H := Lib.hid (Dec.head3 ⟨by omega, h4⟩)
          have h4' : (x : Int) < 240 := by omega
          go_enter Tryd.func28, Tryd.ntmps28
          go_wp2_with fail
          go_ret2
          exact hres_mk H.out rfl (by omega)
        · have h4' : decide ((x : Int) < 240) = false := by simp; omega
          have h4'' : (240 : Int) ≤ (x : Int) := by omega
          by_cases h5 : x < 248
          · have H := Lib.hid (Dec.head4 ⟨by omega, h5⟩)
            have h5' : (x : Int) < 248 := by omega
            go_enter Tryd.func28, Tryd.ntmps28
            go_wp2_with fail
            go_ret2
            exact hres_mk H.out rfl (by omega)
          · have h5' : decide ((x : Int) < 248) = false := by simp; omega
            have H : Hid (Dec.headN x = (0, 0)) := Lib.hid (by unfold Dec.headN; rw [if_neg h1, if_neg (by omega), if_neg (by omega), if_neg (by omega)])
            go_enter Tryd.func28, Tryd.ntmps28
            go_wp2_with fail
            go_ret2
            exact hres_mk H.out rfl rfl

theorem head_bound (x : Nat) (hx : x < 256) : (Dec.headN x).1 ≤ 4 ∧ (Dec.headN x).2 < 128 := by
  unfold Dec.headN
  repeat' split
  all_goals simp <;> omega

theorem valK_bound (l : List UInt8) (rest v0 : Nat) (hr : rest < 64) (hv : v0 < 128) (k : Nat) (hk : k ≤ 3) : Dec.valK l rest v0 k < 33554432 := by
  have key : ∀ k, Dec.valK l rest v0 k < 128 * 64 ^ k := by
    intro k
    induction k with
    | zero => simpa [Dec.valK] using hv
    | succ k ih =>
      unfold Dec.valK
      have h1 : (if k + 1 < l.length then Dec.nb l (k + 1) % 64 else rest) < 64 := by split <;> omega
      rw [Nat.pow_succ]
      omega
  have h := key k
  have h2 : 64 ^ k ≤ 64 ^ 3 := Nat.pow_le_pow_right (by decide) hk
  omega

theorem str_get {s : ByteArray} {l : List UInt8} (hl : s.data.toList = l) (k : Nat) (hk : k < l.length) : ∃ h : k < s.size, s[k] = l[k] := by
  subst hl
  refine ⟨by simpa using hk, ?_⟩
  rfl

set_option maxHeartbeats 800000 in
theorem value_any (s : ByteArray) (l : List UInt8) (hl : s.data.toList = l) (h0 : 0 < l.length) (h4 : l.length ≤ 4) (rest : Nat) (hr : rest < 64) (w : World) :
    Calls Tryd.prog 29 #[.string s, .int .i64 (rest : Int)] w fun e w' => e = .returned (.int .i64 (Dec.valN l rest : Int)) ∧ w = w' := by
  have hsz : s.size = l.length := by subst hl; rfl
  obtain ⟨hs0, e0⟩ := str_get hl 0 h0
  obtain ⟨x0, hx0⟩ : ∃ x0, l[0] = x0 := ⟨_, rfl⟩
  rw [hx0] at e0
  have hnb : Dec.nb l 0 = x0.toNat := by unfold Dec.nb; rw [List.getD_eq_getElem?_getD, List.getElem?_eq_getElem h0, hx0]; rfl
  have hb0 := x0.toNat_lt
  have hb0' : (x0.toNat : Int) < 256 := by omega
  obtain ⟨hn4, hv128⟩ := head_bound x0.toNat hb0
  have hhead := head_any x0.toNat hb0
  obtain ⟨n, hn⟩ : ∃ n, (Dec.headN x0.toNat).1 = n := ⟨_, rfl⟩
  obtain ⟨v0, hv0⟩ : ∃ v0, (Dec.headN x0.toNat).2 = v0 := ⟨_, rfl⟩
  unfold HRes at hhead
  rw [hn] at hn4
  rw [hv0] at hv128
  rw [hn, hv0] at hhead
  have hres : Dec.valN l rest = Dec.valK l rest v0 (n - 1) := by unfold Dec.valN; rw [hnb, hn, hv0]
  rw [hres]
  replace hhead := Lib.hid hhead
  replace hl := Lib.hid hl
  have hszN : s.size ≤ 4 := by omega
  replace hsz := Lib.hid hsz
  clear hres hn hv0 hnb hb0 hx0 h0 h4
  go_enter Tryd.func29, Tryd.ntmps29
  go_wp2_with fail
  refine (hhead.out _).mono ?_
  rintro e w1 ⟨rfl, rfl⟩
  go_wp2_with fail
  go_loopg [6, 7] 5 (fun g v i wr => w = wr ∧ ∃ j : Nat, i = .int .i64 (j : Int) ∧ 1 ≤ j ∧ j ≤ n - 1 + 1 ∧ g = 6 - j ∧ ∃ V : Nat, v = .int .i64 (V : Int) ∧ Hid (Dec.valK l rest v0 (j - 1) = V))
  case atStart => exact ⟨rfl, 1, rfl, Nat.le_refl _, by omega, rfl, v0, rfl, Lib.hid rfl⟩
  case round =>
    obtain ⟨rfl, j, rfl, hj1, hjn, rfl, V, rfl, hV⟩ := hrel
    have hVb : (V : Int) < 33554432 := by have := valK_bound l rest v0 hr hv128 (j - 1) (by omega); rw [hV.out] at this; omega
    by_cases hlt : j < n
    · have hstep : Dec.valK l rest v0 j = V * 64 + (if j < l.length then Dec.nb l j % 64 else rest) := by
        obtain ⟨m, rfl⟩ : ∃ m, j = m + 1 := ⟨j - 1, by omega⟩
        show Dec.valK l rest v0 m * 64 + _ = _
        rw [show Dec.valK l rest v0 m = V from hV.out]
      clear hV
      by_cases hj : j < l.length
      · obtain ⟨hsj, ej⟩ := str_get hl.out j hj
        obtain ⟨x, hx⟩ : ∃ x, l[j] = x := ⟨_, rfl⟩
        rw [hx] at ej
        rw [if_pos hj, show Dec.nb l j = x.toNat by unfold Dec.nb; rw [List.getD_eq_getElem?_getD, List.getElem?_eq_getElem hj, hx]; rfl] at hstep
        have hxb : (x.toNat : Int) < 256 := by have := x.toNat_lt; omega
        replace hx := Lib.hid hx
        replace hstep := Lib.hid hstep
        go_wp2_with fail
        go_roundg (6 - (j + 1))
        case measure => omega
        case rel => exact ⟨rfl, j + 1, by go_num, by omega, by omega, rfl, V * 64 + x.toNat % 64, by congr 1, Lib.hid hstep.out⟩
      · rw [if_neg hj] at hstep
        have hsj' : decide (j < s.size) = false := by have := hsz.out; simp; omega
        replace hstep := Lib.hid hstep
        go_wp2_with fail
        go_roundg (6 - (j + 1))
        case measure => omega
        case rel => exact ⟨rfl, j + 1, by go_num, by omega, by omega, rfl, V * 64 + rest, by congr 1, Lib.hid hstep.out⟩
    · have hlt' : decide (j < n) = false := by simp; omega
      have hV2 : Dec.valK l rest v0 (n - 1) = V := by rw [← hV.out]; congr 1; omega
      replace hV2 := Lib.hid hV2
      clear hV
      go_wp2_with fail
      go_ret
      exact ⟨by rw [hV2.out]; rfl, rfl⟩
end Go.Proofs.YtcchcgllgodkhaaDoor
