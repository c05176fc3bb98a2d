/- The walks of layer 1's statements, on: DecAscii. -/
import Derived.Test.YthpgoknenhppmaaDoorL4
namespace Go.Proofs.YthpgoknenhppmaaDoor
open Go.RowKit Go.Lib

theorem lows_snoc (bs : List UInt8) (c : UInt8) : Dec.lows (bs ++ [c]) = if c.toNat < 128 then Dec.lows bs ++ [(c.toNat : Int)] else Dec.lows bs := by
  by_cases hc : c.toNat < 128
  · simp [Dec.lows, hc]
  · simp [Dec.lows, hc]

theorem lows_len (bs : List UInt8) : (Dec.lows bs).length ≤ bs.length := by
  unfold Dec.lows
  rw [List.length_map]
  exact List.length_filter_le _ _

theorem low_snoc (l : List Int) (x : Int) : Dec.low (l ++ [x]) = if x < 128 then Dec.low l ++ [x] else Dec.low l := by
  by_cases hc : x < 128
  · simp [Dec.low, hc]
  · simp [Dec.low, hc]

theorem low_at (L : List Int) (j : Nat) (hj : j < L.length) (hx : L[j] < 128) : ∃ h : (Dec.low (L.take j)).length < (Dec.low L).length, (Dec.low L)[(Dec.low (L.take j)).length] = L[j] := by
  have e : L = L.take j ++ (L[j] :: L.drop (j + 1)) := by
    rw [List.getElem_cons_drop, List.take_append_drop]
  have e2 : Dec.low L = Dec.low (L.take j) ++ (L[j] :: Dec.low (L.drop (j + 1))) := by
    have h1 := Dec.low_append (L.take j) (L[j] :: L.drop (j + 1))
    rw [← e] at h1
    rw [h1]
    have h2 : ∀ (x : Int) (r : List Int), x < 128 → Dec.low (x :: r) = x :: Dec.low r := fun x r h => by simp [Dec.low, h]
    replace h2 := h2 L[j] (L.drop (j + 1)) hx
    rw [h2]
  have h : (Dec.low (L.take j)).length < (Dec.low L).length := by
    rw [e2]
    simp
  refine ⟨h, ?_⟩
  have h3 : (Dec.low L)[(Dec.low (L.take j)).length]? = some L[j] := by
    rw [e2, List.getElem?_append_right (Nat.le_refl _)]
    simp
  rw [List.getElem?_eq_getElem h] at h3
  exact Option.some.inj h3

def AsciiRel (w : World) (bs : List UInt8) (v i : Value) (wr : World) : Prop := ∃ k : Nat, k ≤ bs.length ∧ i = .int .i64 k ∧ Own w.heap.size v (Dec.lows (bs.take k)) wr ∧ Below w.heap.size w wr

theorem ascii_yes {w w3 : World} {bs : List UInt8} {k : Nat} {c : UInt8} {v : Value} (hk : k < bs.length) (hc : bs[k] = c) (hl : c.toNat < 128)
    (h : w3.ownsRow w.heap.size 3 1 v ((Dec.lows (bs.take k)).length + 1) ((Dec.lows (bs.take k)).map (Value.int .i64) ++ [.int .i64 (c.toNat : Int)])) (hb : Below w.heap.size w w3) (hi : (k : Int) + 1 = ((k + 1 : Nat) : Int)) :
    AsciiRel w bs v (.int .i64 ((k : Int) + 1)) w3 := by
  refine ⟨k + 1, by omega, by rw [hi], ?_, hb⟩
  rw [List.take_succ_eq_append_getElem hk, hc, lows_snoc, if_pos hl]
  exact own_of_row h (by simp) (by simp)

theorem ascii_no {w w3 : World} {bs : List UInt8} {k : Nat} {c : UInt8} {v : Value} (hk : k < bs.length) (hc : bs[k] = c) (hl : ¬ c.toNat < 128)
    (h : Own w.heap.size v (Dec.lows (bs.take k)) w3) (hb : Below w.heap.size w w3) (hi : (k : Int) + 1 = ((k + 1 : Nat) : Int)) :
    AsciiRel w bs v (.int .i64 ((k : Int) + 1)) w3 := by
  refine ⟨k + 1, by omega, by rw [hi], ?_, hb⟩
  rw [List.take_succ_eq_append_getElem hk, hc, lows_snoc, if_neg hl]
  exact h

/-- the second loop -/
def LowRel (L : List Int) (w : World) (k i : Value) (wr : World) : Prop := (∃ d, wr = w.drewN d) ∧ ∃ j : Nat, j ≤ L.length ∧ i = .int .i64 j ∧ k = .int .i64 ((Dec.low (L.take j)).length : Nat)

theorem low_yes {L : List Int} {w wr : World} {j n : Nat} {x : Int} (hj : j < L.length) (hx : L[j] = x) (hl : x < 128) (hn : (Dec.low (L.take j)).length = n) (hd : ∃ d, wr = w.drewN d) : LowRel L w (.int .i64 ((n : Int) + 1)) (.int .i64 ((j : Int) + 1)) wr := by
  refine ⟨hd, j + 1, by omega, by rw [show (j : Int) + 1 = ((j + 1 : Nat) : Int) by omega], ?_⟩
  rw [List.take_succ_eq_append_getElem hj, hx, low_snoc, if_pos hl, List.length_append, hn]
  rfl

theorem low_no {L : List Int} {w wr : World} {j n : Nat} {x : Int} (hj : j < L.length) (hx : L[j] = x) (hl : ¬ x < 128) (hn : (Dec.low (L.take j)).length = n) (hd : ∃ d, wr = w.drewN d) : LowRel L w (.int .i64 (n : Int)) (.int .i64 ((j : Int) + 1)) wr := by
  refine ⟨hd, j + 1, by omega, by rw [show (j : Int) + 1 = ((j + 1 : Nat) : Int) by omega], ?_⟩
  rw [List.take_succ_eq_append_getElem hj, hx, low_snoc, if_neg hl, hn]

set_option maxHeartbeats 800000 in
theorem decAscii_long (p : Option Addr) (n cap : Nat) (w : World) (hT : Lib.Utf8Tabs 0 1 w) (hlen : 300 < n) :
    Calls Tryd.prog 9 #[.slice p n cap] w fun e w' => e = .returned (.bool true) ∧ Below w.heap.size w w' := by
  have hT' := Lib.hid hT
  have hlen' : (300 : Int) < (n : Int) := by omega
  clear hT
  go_enter Tryd.func9, Tryd.ntmps9
  go_wp2_with fail
  refine (awake_any w hT'.out).mono ?_
  rintro e w1 ⟨rfl, hb1⟩
  go_wp2_with fail
  go_ret
  exact ⟨rfl, hb1⟩

set_option maxRecDepth 100000 in
set_option maxHeartbeats 1600000 in
theorem decAscii_short (p : Option Addr) (cap : Nat) (bs : List UInt8) (w : World) (hT : Lib.Utf8Tabs 0 1 w) (hlen : bs.length ≤ 300) (hr : RBytes w (.slice p bs.length cap) bs) :
    Calls Tryd.prog 9 #[.slice p bs.length cap] w fun e w' => e = .returned (.bool true) ∧ Below w.heap.size w w' := by
  replace hr := Lib.hid hr
  have hT' := Lib.hid hT
  have hlen' : decide ((300 : Int) < (bs.length : Int)) = false := by simp; omega
  obtain ⟨i0, hi, hz0, hz1, hz2⟩ := info_parts info_int
  clear hT
  go_enter Tryd.func9, Tryd.ntmps9
  go_wp2_with fail
  refine (awake_any w hT'.out).mono ?_
  rintro e w1 ⟨rfl, hb1⟩
  go_wp2_with fail
  go_loopw [4, 5] (fun v i wr => AsciiRel w bs v i wr) (fun _ i _ => bs.length - (RowKit.intOf i).toNat)
  case atStart => exact ⟨0, Nat.zero_le _, rfl, own_nil _ _, hb1⟩
  case round =>
    obtain ⟨k, hk, rfl, hown, hbel⟩ := hrel
    by_cases hlt : k < bs.length
    · obtain ⟨c, hcc⟩ : ∃ c, bs[k] = c := ⟨_, rfl⟩
      obtain ⟨b, off, rfl, hb, hcA⟩ := bytes_at hr.out (by omega)
      have hcell : wr.cell? ⟨b, off + k, none⟩ = some (.int .u8 (c.toNat : Int)) := by rw [hbel.cell hb, ← hcc]; exact hcA k hlt
      clear hcA
      have hll := lows_len (bs.take k)
      have hlt2 := List.length_take_le k bs
      have hm1 := Lib.hid (show (Dec.lows (bs.take k)).length + 1 ≤ maxLen by simp only [maxLen]; omega)
      have hm2 := Lib.hid (show ((Dec.lows (bs.take k)).length + 1) * 8 ≤ 140737488355328 by omega)
      have hm3 := Lib.hid (show ∀ x, w.heap.size ≤ (wr.alloc (Obj.cells #[Value.int IntKind.i64 x] 3)).heap.size from fun x => by have := hbel.size; simp; omega)
      replace hcc := Lib.hid hcc
      replace hown := Lib.hid hown
      have hki : (k : Int) + 1 = ((k + 1 : Nat) : Int) := by omega
      replace hki := Lib.hid hki
      clear hll hlt2
      by_cases hc : c.toNat < 128
      · have hc1 : decide ((c.toNat : Int) < 128) = true := by simp; omega
        have hc2 : (c.toNat : Int) < 128 := by omega
        have hc0 : (0 : Int) ≤ (c.toNat : Int) := by omega
        replace hc := Lib.hid hc
        go_wp2_with (at_builtin; refine wpList_append_own _ rfl _ _ 25 rfl w.heap.size 3 i0 (.int .i64 0) 1 8 Tryd.underlying25 hi hz0 hz1 hz2 rfl (by decide) _ _ _ rfl (own_alloc hown.out _) ⟨wr.heap.size, 0, none⟩ 1 1 [.int .i64 (c.toNat : Int)] rfl rfl (cell_one_new _ _ _) (ints_oneCell [(c.toNat : Int)]) hm1.out hm2.out (hm3.out _) ?_; intro v5 w5 hown5 hgrow5 _)
        go_roundw
        case rel => exact ascii_yes hlt hcc.out hc.out hown5 (below_grown (hbel.alloc hbel.size _) hgrow5 (by simp; have := hbel.size; omega) (own_alloc hown.out _) (Nat.le_refl _)) hki.out
        case measure => simp [RowKit.intOf]; omega
      · have hc1 : decide ((c.toNat : Int) < 128) = false := by simp; omega
        replace hc := Lib.hid hc
        go_wp2_with fail
        go_roundw
        case rel => exact ascii_no hlt hcc.out hc.out hown.out hbel hki.out
        case measure => simp [RowKit.intOf]; omega
    · have hkk : k = bs.length := by omega
      have hown2 := own_cast (l' := Dec.lows bs) hown (by rw [hkk, List.take_length])
      replace hown2 := Lib.hid hown2
      clear hown hkk
      go_wp2_with fail
      refine (all_any _ bs wr (Utf8Tabs_below hT'.out hbel) (by omega) (bytes_below hr.out hbel)).mono ?_
      rintro e w2 ⟨v2, rfl, hown3, hb2⟩
      have hbel2 := hbel.trans (hb2.mono hbel.size)
      have hwant := Lib.hid (ints_of_own (own_below' hown2.out hb2))
      have hL3 := Lib.hid (ints_of_own hown3)
      have hlow := Dec.low_all bs
      have hLl := Dec.all_len bs
      obtain ⟨L, hL⟩ : ∃ L, Dec.allL bs = L := ⟨_, rfl⟩
      rw [hL] at hlow hLl hL3
      obtain ⟨W, hW⟩ : ∃ W, Dec.lows bs = W := ⟨_, rfl⟩
      have hWl := lows_len bs
      rw [hW] at hlow hwant hWl
      obtain ⟨p2, c2, rfl⟩ := ints_form hL3.out
      obtain ⟨p3, c3, hv3⟩ := ints_form hwant.out
      rw [hv3] at hwant
      rw [hv3]
      replace hlow := Lib.hid hlow
      clear hb2 hown3 hL hW hown2 hv3
      go_wp2_with fail
      go_loopw [7, 8] (fun k i wr => LowRel L w2 k i wr) (fun _ i _ => L.length - (RowKit.intOf i).toNat)
      case atStart => exact ⟨⟨0, rfl⟩, 0, Nat.zero_le _, rfl, rfl⟩
      case round =>
        obtain ⟨⟨d, rfl⟩, j, hj, rfl, rfl⟩ := hrel
        obtain ⟨n, hn⟩ : ∃ n, (Dec.low (L.take j)).length = n := ⟨_, rfl⟩
        rw [hn]
        by_cases hlt : j < L.length
        · obtain ⟨x, hx⟩ : ∃ x, L[j] = x := ⟨_, rfl⟩
          obtain ⟨b, off, rfl, hb, hcA⟩ := ints_at hL3.out (by omega)
          have hcell : w2.cell? ⟨b, off + j, none⟩ = some (.int .i64 x) := by rw [← hx]; exact hcA j hlt
          clear hcA
          by_cases hl : x < 128
          · have hat := low_at L j hlt (by rw [hx]; exact hl)
            rw [hn, hlow.out, hx] at hat
            obtain ⟨hnW, hWx⟩ := hat
            obtain ⟨b3, off3, rfl, hb3, hcA⟩ := ints_at hwant.out (by omega)
            have hcell3 : w2.cell? ⟨b3, off3 + n, none⟩ = some (.int .i64 x) := by rw [← hWx]; exact hcA n hnW
            clear hcA
            have d1 : decide ((128 : Int) ≤ x) = false := by simp; omega
            have d2 : decide ((W.length : Int) ≤ (n : Int)) = false := by simp; omega
            have d3 : decide (W.length ≤ n) = false := by simp; omega
            have d4 : (n : Int) < (W.length : Int) := by omega
            replace hn := Lib.hid hn
            replace hx := Lib.hid hx
            have hl2 := Lib.hid hl
            clear hWx
            have d5 : (x != x) = false := by simp
            have d6 : (n : Int) ≤ 300 := by omega
            go_wp2_with fail
            refine wp_region_quiet_lit (by kernel_rfl) (by kernel_rfl) ?_
            repeat (first | go_big_quiet_step (fail) | quiet_step (fail))
            refine wpQuiet_nil ?_
            intro _ hw'
            obtain ⟨nq, hw''⟩ := hw'
            subst hw''
            go_wp2_with fail
            go_roundw
            case rel => exact low_yes hlt hx.out hl2.out hn.out ⟨_, by first | rfl | exact World.drewN_drewN _ _ _⟩
            case measure => simp [RowKit.intOf]; omega
          · have d1 : decide ((128 : Int) ≤ x) = true := by simp; omega
            replace hn := Lib.hid hn
            replace hx := Lib.hid hx
            replace hl := Lib.hid hl
            go_wp2_with fail
            go_roundw
            case rel => exact low_no hlt hx.out hl.out hn.out ⟨_, rfl⟩
            case measure => simp [RowKit.intOf]; omega
        · have hjj : j = L.length := by omega
          have hnW : n = W.length := by rw [← hn, hjj, List.take_length, hlow.out]
          have d1 := beq_nat_int hnW
          have d2 : (n == W.length) = true := by simp [hnW]
          clear hjj hn hnW
          go_wp2_with fail
          go_ret
          exact ⟨rfl, hbel2.trans ((drewN_below _ _).mono hbel2.size)⟩

theorem decAscii_walk (v : Value) (bs : List UInt8) (w : World) (hT : Lib.Utf8Tabs 0 1 w) (hr : RBytes w v bs) :
    Calls Tryd.prog 9 #[v] w fun e w' => e = .returned (.bool true) ∧ Below w.heap.size w w' := by
  obtain ⟨p, cap, rfl⟩ := bytes_form hr
  by_cases hl : bs.length ≤ 300
  · exact decAscii_short p cap bs w hT hl hr
  · exact decAscii_long p _ cap w hT (by omega)

end Go.Proofs.YthpgoknenhppmaaDoor
