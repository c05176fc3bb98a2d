/- Layer 4: number. -/
import Derived.Test.YtgahfbcdnbhikaaDoorDeA1
namespace Go.Proofs.YtgahfbcdnbhikaaDoor
open Go.RowKit Go.Lib

theorem hex_any (c : UInt8) (w : World) :
    Calls Tryd.prog 44 #[.string ⟨#[48, 49, 50, 51, 52, 53, 54, 55, 56, 57, 65, 66, 67, 68, 69, 70]⟩, .int .u8 (c.toNat : Int)] w fun e w' => e = .returned (.int .i64 (Dcp.hexD c)) ∧ w = w' := by
  refine (Tryd.strings_IndexByte _ _ _).mono ?_
  rintro e w' ⟨rfl, rfl⟩
  refine ⟨?_, rfl⟩
  rw [show ((c.toNat : Int)).toNat.toUInt8 = c by simp]
  rfl

theorem take_snocB (s : ByteArray) (k : Nat) (h : k < s.size) : s.data.toList.take (k + 1) = s.data.toList.take k ++ [s[k]] := by
  rw [List.take_succ_eq_append_getElem (by simpa using h)]
  rfl

set_option maxHeartbeats 800000 in
theorem number_any (s : ByteArray) (hs : 4 ≤ s.size) (hs2 : s.size ≤ 100) (w : World) :
    Calls Tryd.prog 38 #[.string s] w fun e w' => e = .returned (.int .i64 (Dcp.numF (s.data.toList.take 4))) ∧ w = w' := by
  go_enter Tryd.func38, Tryd.ntmps38
  go_wp2_with fail
  go_loopg [3, 5] 4 (fun g n i wr => ∃ k : Nat, k ≤ 4 ∧ i = .int .i64 k ∧ n = .int .i64 (Dcp.numF (s.data.toList.take k)) ∧ g = 4 - k ∧ wr = w)
  case atStart => exact ⟨0, by omega, rfl, rfl, rfl, rfl⟩
  case round =>
    obtain ⟨k, hk, rfl, rfl, rfl, rfl⟩ := hrel
    have hb := Dcp.numF_bd (s.data.toList.take k) (by rw [List.length_take]; omega)
    by_cases hlt : k < 4
    · have hlt' : (k : Int) < 4 := by omega
      have hks : k < s.size := by omega
      have hsn := take_snocB s k hks
      obtain ⟨c, hc⟩ : ∃ c, s[k] = c := ⟨_, rfl⟩
      obtain ⟨x, hx⟩ : ∃ x, Dcp.numF (s.data.toList.take k) = x := ⟨_, rfl⟩
      rw [hc] at hsn
      have hnx := Dcp.numF_snoc (s.data.toList.take k) c
      rw [← hsn, hx] at hnx
      rw [hx] at hb
      have hd := Dcp.hexD_bd c
      obtain ⟨d, hd'⟩ : ∃ d, Dcp.hexD c = d := ⟨_, rfl⟩
      rw [hd'] at hd hnx
      have hcall := hex_any c
      rw [hd'] at hcall
      obtain ⟨hb1, hb2⟩ := hb
      obtain ⟨hd1, hd2⟩ := hd
      replace hcall := Lib.hid hcall
      replace hnx := Lib.hid hnx
      clear hsn hd'
      go_wp2_with fail
      refine (hcall.out _).mono ?_
      rintro e w1 ⟨rfl, rfl⟩
      go_wp2_with fail
      go_roundg (4 - (k + 1))
      case measure => omega
      case rel => exact ⟨k + 1, by omega, by go_num, by rw [hnx.out], rfl, rfl⟩
    · obtain rfl : k = 4 := by omega
      obtain ⟨x, hx⟩ : ∃ x, Dcp.numF (s.data.toList.take 4) = x := ⟨_, rfl⟩
      rw [hx]
      go_wp2_with fail
      go_ret
      exact ⟨by rw [hx]; rfl, rfl⟩

/-- what stands behind a place -/
theorem made_len {L : List UInt8} {k : Nat} {xs : List Int} (hk : k ≤ 4) (h : xs ++ Dcp.madeF L (4 - k) k = Dcp.madeF L 4 0) : xs.length ≤ 4 := by
  have := Dcp.madeF_len L 4 0
  rw [← h, List.length_append] at this
  omega

theorem madeF_step {L : List UInt8} {k : Nat} (hk : k < 4) : Dcp.madeF L (4 - k) k = if (L.drop ((1 + k) * 5)).headD 0 = 32 then [] else Dcp.numF ((L.drop ((1 + k) * 5)).take 4) :: Dcp.madeF L (4 - (k + 1)) (k + 1) := by
  rw [show 4 - k = 4 - (k + 1) + 1 by omega, Dcp.madeF]

theorem headD_at {L : List UInt8} (h : 0 < L.length) : L.headD 0 = L[0] := by
  cases L with
  | nil => simp at h
  | cons a t => rfl

set_option maxHeartbeats 1600000 in
theorem made_any (s : ByteArray) (hs : s.size = 25) (w : World) :
    Calls Tryd.prog 25 #[.string s] w fun e w' => ∃ v, e = .returned v ∧ OwnI w.heap.size v (Dcp.madeF s.data.toList 4 0) w' ∧ Below w.heap.size w w' := by
  obtain ⟨i0, hi, hz0, hz1, hz2⟩ := info_parts info_i
  go_enter Tryd.func25, Tryd.ntmps25
  go_wp2_with fail
  go_loopg [3, 6] 4 (fun g v i wr => ∃ (k : Nat) (xs : List Int), k ≤ 4 ∧ i = .int .i64 k ∧ xs ++ Dcp.madeF s.data.toList (4 - k) k = Dcp.madeF s.data.toList 4 0 ∧ OwnI w.heap.size v xs wr ∧ Below w.heap.size w wr ∧ g = 4 - k)
  case atStart => exact ⟨0, [], by omega, rfl, rfl, ownI_nil _ _, Below.refl _ _, rfl⟩
  case round =>
    obtain ⟨k, xs, hk, rfl, hxs, hown, hbel, rfl⟩ := hrel
    have hxl := made_len hk hxs
    by_cases hlt : k < 4
    · have hlt' : (k : Int) < 4 := by omega
      have hkk : (1 + k) * 5 < s.size := by omega
      rw [madeF_step hlt] at hxs
      obtain ⟨t, ht⟩ : ∃ t, s.extract ((1 + k) * 5) 25 = t := ⟨_, rfl⟩
      have htl : t.data.toList = s.data.toList.drop ((1 + k) * 5) := by rw [← ht, Lib.extract_data]; apply List.take_of_length_le; simp [hs]
      have hts : t.size = 25 - (1 + k) * 5 := by rw [← ht]; simp [hs]
      have ht4 : 4 ≤ t.size := by omega
      have ht100 : t.size ≤ 100 := by omega
      have ht0 : 0 < t.size := by omega
      obtain ⟨c, hc⟩ : ∃ c, t[0] = c := ⟨_, rfl⟩
      have hhd : t.data.toList.headD 0 = c := by rw [headD_at (by simpa using ht0)]; exact hc
      rw [← htl, hhd] at hxs
      replace htl := Lib.hid htl
      replace hhd := Lib.hid hhd
      replace hts := Lib.hid hts
      replace hown := Lib.hid hown
      replace hbel := Lib.hid hbel
      by_cases h32 : c = 32
      · rw [if_pos h32, List.append_nil] at hxs
        have hc32 : ((c.toNat : Int) == 32) = true := by rw [h32]; rfl
        replace hxs := Lib.hid hxs
        clear h32
        go_wp2_with fail
        go_ret
        exact ⟨_, rfl, ownI_cast hown.out hxs.out, hbel.out⟩
      · rw [if_neg h32] at hxs
        have hc32 : ((c.toNat : Int) == 32) = false := by
          refine beq_eq_false_iff_ne.2 fun e => h32 (UInt8.toNat_inj.1 ?_)
          show c.toNat = 32
          omega
        obtain ⟨x, hx⟩ : ∃ x, Dcp.numF (t.data.toList.take 4) = x := ⟨_, rfl⟩
        have hnum := number_any t ht4 ht100 wr
        rw [hx] at hxs hnum
        replace hxs := Lib.hid hxs
        replace hx := Lib.hid hx
        replace hnum := Lib.hid hnum
        clear h32
        go_wp2_with fail
        refine hnum.out.mono ?_
        rintro e w1 ⟨rfl, rfl⟩
        have hown2 := ownI_alloc hown.out (.cells #[.int .i64 x] 3)
        have hone := ri_src (ri_of_own (ownI_lit w.heap.size wr [x] #[.int .i64 x] wr.heap.size 1 rfl hbel.out.size rfl rfl (by unfold maxLen; omega)))
        have hbel2 := hbel.out.alloc hbel.out.size (.cells #[.int .i64 x] 3)
        have hmx : xs.length + [x].length ≤ maxLen ∧ (xs.length + [x].length) * 8 ≤ 140737488355328 := by unfold maxLen; simp; omega
        replace hown2 := Lib.hid hown2
        replace hbel2 := Lib.hid hbel2
        go_wp2_with (at_builtin; refine wpList_append_src rfl _ _ 28 rfl w.heap.size 3 i0 (.int .i64 0) 8 Tryd.underlying28 hi hz0 hz1 hz2 rfl _ _ _ rfl hown2.out _ _ rfl hone (oneCellI [x]) (by simpa using hmx.1) (by simpa using hmx.2) hbel2.out.size ?_; intro v5 w5 hown5 hgrow5)
        have hown6 := ownI_of_row (l := xs ++ [x]) hown5 (by simp) (by simp)
        have hbel6 := below_row hbel2.out hgrow5 hbel2.out.size hown2.out (Nat.le_refl _)
        go_roundg (4 - (k + 1))
        case measure => omega
        case rel => exact ⟨k + 1, xs ++ [x], by omega, by go_num, by rw [List.append_assoc]; exact hxs.out, hown6, hbel6, rfl⟩
    · obtain rfl : k = 4 := by omega
      rw [show Dcp.madeF s.data.toList (4 - 4) 4 = [] from rfl, List.append_nil] at hxs
      replace hxs := Lib.hid hxs
      replace hown := Lib.hid hown
      replace hbel := Lib.hid hbel
      go_wp2_with fail
      go_ret
      exact ⟨_, rfl, ownI_cast hown.out hxs.out, hbel.out⟩

end Go.Proofs.YtgahfbcdnbhikaaDoor
