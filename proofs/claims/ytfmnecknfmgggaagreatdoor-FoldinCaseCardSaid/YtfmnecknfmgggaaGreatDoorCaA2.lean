/- Layer 6: part, values, Fold. -/
import Derived.Test.YtfmnecknfmgggaaGreatDoorCaA1
import Derived.Test.YtfmnecknfmgggaaGreatDoorBasP
import Derived.Deep.LoopGhost
import Derived.Deep.DeepCutAuto
namespace Go.Proofs.YtfmnecknfmgggaaGreatDoor
set_option linter.unusedSimpArgs false
set_option linter.unusedVariables false
open Go.RowKit Go.Lib Go.Maps

/-- what the call of part comes to -/
def MakesPart (rows : List (Int × Int)) (w : World) (e : Ending) (w' : World) : Prop :=
  (rows = [] ∧ e = .returned (.map none) ∧ Below w.heap.size w w') ∨ MakesMap rows w e w'

set_option maxHeartbeats 800000 in
theorem part_any (r : Int) (w : World) (__h0 : -9223372036854775808 ≤ r) (_h1 : r ≤ 9223372036854775807) : Calls Tryz.prog 35 #[.int .i64 r] w (MakesPart (Cas.partT r) w) := by
  have hp : Cas.partT r = if r / 256 = 0 then Cas.latinT else if r / 256 = 1 then Cas.latinFurtherT else if r / 256 = 3 then Cas.greekT else if r / 256 = 30 then Cas.latinMarkedT else [] := rfl
  obtain ⟨T, hT⟩ : ∃ T, Cas.partT r = T := ⟨_, rfl⟩
  rw [hT] at hp ⊢
  replace hp := Lib.hid hp
  clear hT
  go_enter Tryz.func35, Tryz.ntmps35
  go_wp2_with fail
  · have hc : (r / 256 == 0) = true := by assumption
    have hT : T = Cas.latinT := by rw [hp.out, if_pos (by simpa using hc)]
    replace hT := Lib.hid hT
    refine (latin_any _).mono ?_
    rintro e w1 ⟨b, rfl, hm, hb⟩
    replace hm := Lib.hid hm
    replace hb := Lib.hid hb
    go_wp2_with fail
    go_ret
    exact .inr ⟨b, rfl, by rw [hT.out]; exact hm.out, hb.out⟩
  · have hd : (r / 256 == 0) = false := by assumption
    have hc : (r / 256 == 1) = true := by assumption
    have hT : T = Cas.latinFurtherT := by rw [hp.out, if_neg (by simpa using hd), if_pos (by simpa using hc)]
    replace hT := Lib.hid hT
    refine (latinFurther_any _).mono ?_
    rintro e w1 ⟨b, rfl, hm, hb⟩
    replace hm := Lib.hid hm
    replace hb := Lib.hid hb
    go_wp2_with fail
    go_ret
    exact .inr ⟨b, rfl, by rw [hT.out]; exact hm.out, hb.out⟩
  · have hd : (r / 256 == 0) = false := by assumption
    have hd1 : (r / 256 == 1) = false := by assumption
    have hc : (r / 256 == 3) = true := by assumption
    have hT : T = Cas.greekT := by rw [hp.out, if_neg (by simpa using hd), if_neg (by simpa using hd1), if_pos (by simpa using hc)]
    replace hT := Lib.hid hT
    refine (greek_any _).mono ?_
    rintro e w1 ⟨b, rfl, hm, hb⟩
    replace hm := Lib.hid hm
    replace hb := Lib.hid hb
    go_wp2_with fail
    go_ret
    exact .inr ⟨b, rfl, by rw [hT.out]; exact hm.out, hb.out⟩
  · have hd : (r / 256 == 0) = false := by assumption
    have hd1 : (r / 256 == 1) = false := by assumption
    have hd2 : (r / 256 == 3) = false := by assumption
    have hc : (r / 256 == 30) = true := by assumption
    have hT : T = Cas.latinMarkedT := by rw [hp.out, if_neg (by simpa using hd), if_neg (by simpa using hd1), if_neg (by simpa using hd2), if_pos (by simpa using hc)]
    replace hT := Lib.hid hT
    refine (latinMarked_any _).mono ?_
    rintro e w1 ⟨b, rfl, hm, hb⟩
    replace hm := Lib.hid hm
    replace hb := Lib.hid hb
    go_wp2_with fail
    go_ret
    exact .inr ⟨b, rfl, by rw [hT.out]; exact hm.out, hb.out⟩
  · have hd : (r / 256 == 0) = false := by assumption
    have hd1 : (r / 256 == 1) = false := by assumption
    have hd2 : (r / 256 == 3) = false := by assumption
    have hd3 : (r / 256 == 30) = false := by assumption
    have hT : T = [] := by rw [hp.out, if_neg (by simpa using hd), if_neg (by simpa using hd1), if_neg (by simpa using hd2), if_neg (by simpa using hd3)]
    replace hT := Lib.hid hT
    go_ret
    exact .inl ⟨hT.out, rfl, Below.refl _ _⟩

/-- the values of a number from the k-th place on -/
def upV (h : Int) (k : Nat) : List Int := ([h / 4294967296 % 65536, h / 65536 % 65536, h % 65536].take (3 - k)).filter fun x => decide (0 < x)

theorem and65535u (x : Int) (h0 : 0 ≤ x) (h1 : x < 2 ^ 64) : bits .and .u64 x 65535 = x % 65536 := by
  have hc : (65535 : Int) = ((65535 : Nat) : Int) := rfl
  obtain ⟨n, rfl⟩ : ∃ n : Nat, x = n := ⟨x.toNat, by omega⟩
  have hb : IntKind.u64.bits = 64 := rfl
  rw [hc]
  simp only [bits, hb, BitVec.ofInt_natCast, BitVec.toNat_and, BitVec.toNat_ofNat]
  rw [Nat.mod_eq_of_lt (show n < 2 ^ 64 by omega), Nat.mod_eq_of_lt (show 65535 < 2 ^ 64 by decide), show (65535 : Nat) = 2 ^ 16 - 1 from rfl, Nat.and_two_pow_sub_one_eq_mod, IntKind.wrap_u64]
  omega

/-- the k-th place from below -/
def plcV (h : Int) (k : Nat) : Int := if k = 0 then h % 65536 else if k = 1 then h / 65536 % 65536 else h / 4294967296 % 65536

theorem upV_no (h : Int) (k : Nat) (hk : k < 3) (h0 : plcV h k = 0) : upV h k = upV h (k + 1) := by
  match k, hk with
  | 0, _ => simp only [plcV, if_pos] at h0; simp [upV, List.filter_cons, h0]
  | 1, _ => simp only [plcV, if_neg (show ¬ (1 : Nat) = 0 by decide), if_pos] at h0; simp [upV, List.filter_cons, h0]
  | 2, _ => simp only [plcV, if_neg (show ¬ (2 : Nat) = 0 by decide), if_neg (show ¬ (2 : Nat) = 1 by decide)] at h0; simp [upV, h0]
theorem upV_yes (h : Int) (k : Nat) (hk : k < 3) (x : Int) (hx : plcV h k = x) (h0 : 0 < x) : upV h k = upV h (k + 1) ++ [x] := by
  subst hx
  match k, hk with
  | 0, _ =>
    simp only [plcV, if_pos] at h0
    by_cases h1 : 0 < h / 65536 % 65536 <;> by_cases h2 : 0 < h / 4294967296 % 65536 <;> simp [upV, plcV, h0, h1, h2]
  | 1, _ =>
    simp only [plcV, if_neg (show ¬ (1 : Nat) = 0 by decide), if_pos] at h0
    by_cases h2 : 0 < h / 4294967296 % 65536 <;> simp [upV, plcV, h0, h2]
  | 2, _ =>
    simp only [plcV, if_neg (show ¬ (2 : Nat) = 0 by decide), if_neg (show ¬ (2 : Nat) = 1 by decide)] at h0
    simp [upV, plcV, h0]
theorem upV_len (h : Int) (k : Nat) : (upV h k).length ≤ 3 := by
  refine Nat.le_trans (List.length_filter_le _ _) ?_
  rw [List.length_take]
  simp

set_option maxHeartbeats 1600000 in
theorem values_any (h : Int) (w : World) (h0 : 0 ≤ h) (h1 : h < 281474976710656) : Calls Tryz.prog 36 #[.int .u64 h] w (Makes (Cas.valsI h) w) := by
  obtain ⟨i0, hi, hz0, hz1, hz2⟩ := info_parts info_i
  have hbits : ∀ k, k < 3 → ∃ x, bits .and .u64 (if k = 0 then h else if k = 1 then h / 65536 else h / 4294967296) 65535 = x ∧ plcV h k = x ∧ 0 ≤ x ∧ x < 65536 := by
    intro k hk
    match k, hk with
    | 0, _ => exact ⟨h % 65536, and65535u h (by omega) (by omega), rfl, by omega, by omega⟩
    | 1, _ => exact ⟨h / 65536 % 65536, and65535u (h / 65536) (by omega) (by omega), rfl, by omega, by omega⟩
    | 2, _ => exact ⟨h / 4294967296 % 65536, and65535u (h / 4294967296) (by omega) (by omega), rfl, by omega, by omega⟩
  replace hbits := Lib.hid hbits
  have h3 := Lib.hid (show upV h 3 = [] from rfl)
  go_enter Tryz.func36, Tryz.ntmps36
  go_wp2_with fail
  go_loopg [3, 4] 3 (fun g vl vk wr => ∃ (kz : Int), g ≤ 3 ∧ Hid (kz = (g : Int) - 1) ∧ vk = .int .i64 kz ∧ OwnI w.heap.size vl (upV h g) wr ∧ Below w.heap.size w wr)
  case atStart => exact ⟨2, by omega, Lib.hid rfl, rfl, ownI_nil _ _, Below.refl _ _⟩
  case round =>
    obtain ⟨kz, hk, hkz, rfl, hown, hbel⟩ := hrel
    replace hown := Lib.hid hown
    replace hbel := Lib.hid hbel
    match gk, hk with
    | 0, _ =>
      obtain rfl : kz = -1 := hkz.out
      go_wp2_with fail
      go_ret
      exact ⟨_, rfl, hown.out, hbel.out⟩
    | 1, _ =>
      obtain rfl : kz = 0 := hkz.out
      obtain ⟨x, hx, hp, hx0, hx1⟩ := hbits.out 0 (by omega)
      simp only [if_pos] at hx
      rcases Int.lt_or_le 0 x with hpos | hzero
      · have hnew := Lib.hid (upV_yes h 0 (by omega) x hp hpos)
        have hlen := upV_len h 1
        replace hp := Lib.hid hp
        obtain ⟨m, hm⟩ : ∃ m, upV h 1 = m := ⟨_, rfl⟩
        rw [show upV h (0 + 1) = upV h 1 from rfl, hm] at hnew
        rw [hm] at hlen hown
        replace hm := Lib.hid hm
        have hown' := Lib.hid (ownI_alloc hown.out (.cells #[.int .i64 x] 3))
        have hbel' := Lib.hid (hbel.out.alloc hbel.out.size (.cells #[.int .i64 x] 3))
        have hsrc := Lib.hid (ri_src (ri_of_own (ownI_lit w.heap.size wr [x] #[.int .i64 x] wr.heap.size 1 rfl hbel.out.size rfl rfl (by unfold maxLen; omega))))
        go_wp2_with (at_builtin; refine wpList_append_src rfl _ _ 22 rfl w.heap.size 3 i0 (.int .i64 0) 8 Tryz.underlying22 hi hz0 hz1 hz2 rfl _ _ _ rfl hown'.out _ _ rfl hsrc.out (oneCellI _) (by unfold maxLen; first | (simp; done) | (simp; omega)) (by first | (simp; done) | (simp; omega)) hbel'.out.size ?_; intro v5 w5 ho5 hg5; have o5 := Lib.hid (ownI_of_row (l := m ++ [x]) ho5 (by (try simp); try omega) (by (try simp); try omega)); have b5 := Lib.hid (below_row hbel'.out hg5 hbel'.out.size hown'.out (Nat.le_refl _)); clear ho5 hg5)
        go_roundg 0
        case measure => omega
        case rel => exact ⟨_, by omega, Lib.hid (by omega), rfl, by rw [hnew.out]; exact o5.out, b5.out⟩
      · obtain rfl : x = 0 := by omega
        have hold := Lib.hid (upV_no h 0 (by omega) hp)
        replace hp := Lib.hid hp
        clear hx0 hx1 hzero
        go_wp2_with fail
        go_roundg 0
        case measure => omega
        case rel => exact ⟨_, by omega, Lib.hid (by omega), rfl, by rw [hold.out]; exact hown.out, hbel.out⟩
    | 2, _ =>
      obtain rfl : kz = 1 := hkz.out
      obtain ⟨x, hx, hp, hx0, hx1⟩ := hbits.out 1 (by omega)
      simp only [if_neg (show ¬ (1 : Nat) = 0 by decide), if_pos] at hx
      rcases Int.lt_or_le 0 x with hpos | hzero
      · have hnew := Lib.hid (upV_yes h 1 (by omega) x hp hpos)
        have hlen := upV_len h 2
        replace hp := Lib.hid hp
        obtain ⟨m, hm⟩ : ∃ m, upV h 2 = m := ⟨_, rfl⟩
        rw [show upV h (1 + 1) = upV h 2 from rfl, hm] at hnew
        rw [hm] at hlen hown
        replace hm := Lib.hid hm
        have hown' := Lib.hid (ownI_alloc hown.out (.cells #[.int .i64 x] 3))
        have hbel' := Lib.hid (hbel.out.alloc hbel.out.size (.cells #[.int .i64 x] 3))
        have hsrc := Lib.hid (ri_src (ri_of_own (ownI_lit w.heap.size wr [x] #[.int .i64 x] wr.heap.size 1 rfl hbel.out.size rfl rfl (by unfold maxLen; omega))))
        go_wp2_with (at_builtin; refine wpList_append_src rfl _ _ 22 rfl w.heap.size 3 i0 (.int .i64 0) 8 Tryz.underlying22 hi hz0 hz1 hz2 rfl _ _ _ rfl hown'.out _ _ rfl hsrc.out (oneCellI _) (by unfold maxLen; first | (simp; done) | (simp; omega)) (by first | (simp; done) | (simp; omega)) hbel'.out.size ?_; intro v5 w5 ho5 hg5; have o5 := Lib.hid (ownI_of_row (l := m ++ [x]) ho5 (by (try simp); try omega) (by (try simp); try omega)); have b5 := Lib.hid (below_row hbel'.out hg5 hbel'.out.size hown'.out (Nat.le_refl _)); clear ho5 hg5)
        go_roundg 1
        case measure => omega
        case rel => exact ⟨_, by omega, Lib.hid (by omega), rfl, by rw [hnew.out]; exact o5.out, b5.out⟩
      · obtain rfl : x = 0 := by omega
        have hold := Lib.hid (upV_no h 1 (by omega) hp)
        replace hp := Lib.hid hp
        clear hx0 hx1 hzero
        go_wp2_with fail
        go_roundg 1
        case measure => omega
        case rel => exact ⟨_, by omega, Lib.hid (by omega), rfl, by rw [hold.out]; exact hown.out, hbel.out⟩
    | 3, _ =>
      obtain rfl : kz = 2 := hkz.out
      obtain ⟨x, hx, hp, hx0, hx1⟩ := hbits.out 2 (by omega)
      simp only [if_neg (show ¬ (2 : Nat) = 0 by decide), if_neg (show ¬ (2 : Nat) = 1 by decide)] at hx
      rcases Int.lt_or_le 0 x with hpos | hzero
      · have hnew := Lib.hid (upV_yes h 2 (by omega) x hp hpos)
        have hlen := upV_len h 3
        replace hp := Lib.hid hp
        obtain ⟨m, hm⟩ : ∃ m, upV h 3 = m := ⟨_, rfl⟩
        rw [show upV h (2 + 1) = upV h 3 from rfl, hm] at hnew
        rw [hm] at hlen hown
        replace hm := Lib.hid hm
        have hown' := Lib.hid (ownI_alloc hown.out (.cells #[.int .i64 x] 3))
        have hbel' := Lib.hid (hbel.out.alloc hbel.out.size (.cells #[.int .i64 x] 3))
        have hsrc := Lib.hid (ri_src (ri_of_own (ownI_lit w.heap.size wr [x] #[.int .i64 x] wr.heap.size 1 rfl hbel.out.size rfl rfl (by unfold maxLen; omega))))
        go_wp2_with (at_builtin; refine wpList_append_src rfl _ _ 22 rfl w.heap.size 3 i0 (.int .i64 0) 8 Tryz.underlying22 hi hz0 hz1 hz2 rfl _ _ _ rfl hown'.out _ _ rfl hsrc.out (oneCellI _) (by unfold maxLen; first | (simp; done) | (simp; omega)) (by first | (simp; done) | (simp; omega)) hbel'.out.size ?_; intro v5 w5 ho5 hg5; have o5 := Lib.hid (ownI_of_row (l := m ++ [x]) ho5 (by (try simp); try omega) (by (try simp); try omega)); have b5 := Lib.hid (below_row hbel'.out hg5 hbel'.out.size hown'.out (Nat.le_refl _)); clear ho5 hg5)
        go_roundg 2
        case measure => omega
        case rel => exact ⟨_, by omega, Lib.hid (by omega), rfl, by rw [hnew.out]; exact o5.out, b5.out⟩
      · obtain rfl : x = 0 := by omega
        have hold := Lib.hid (upV_no h 2 (by omega) hp)
        replace hp := Lib.hid hp
        clear hx0 hx1 hzero
        go_wp2_with fail
        go_roundg 2
        case measure => omega
        case rel => exact ⟨_, by omega, Lib.hid (by omega), rfl, by rw [hold.out]; exact hown.out, hbel.out⟩
end Go.Proofs.YtfmnecknfmgggaaGreatDoor
