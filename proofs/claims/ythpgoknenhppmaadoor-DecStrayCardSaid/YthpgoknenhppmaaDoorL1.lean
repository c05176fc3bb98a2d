/- The walks of layer 1's statements, first part: DecBack, DecGood. -/
import Derived.Test.YthpgoknenhppmaaDoorA8
import Derived.Lib.ConvBytes
namespace Go.Proofs.YthpgoknenhppmaaDoor
open Go.RowKit Go.Lib

/-- what []byte(s) makes -/
def capB (W : World) (s : ByteArray) : Nat := grownCap W s.size 0 5
def worldB (W : World) (s : ByteArray) : World := Lib.bytesWorld W 5 s

theorem run_toBytes (s : ByteArray) (W : World) : (convert 9 24 (.string s)).run Tryd.prog W = .ok (.slice (some ⟨W.heap.size, 0, none⟩) s.size (capB W s)) (worldB W s) :=
  Lib.run_convert_string_bytes (P := Tryd.prog) W 9 24 5 s Tryd.underlying9 Tryd.underlying24 Tryd.underlying5

theorem worldB_below (W : World) (s : ByteArray) : Below W.heap.size W (worldB W s) := by
  refine ⟨rfl, rfl, rfl, ?_, fun k hk => Lib.bytesWorld_at_old W _ s k hk⟩
  have := Lib.bytesWorld_size W 5 s
  show W.heap.size ≤ (Lib.bytesWorld W 5 s).heap.size
  omega

theorem worldB_reads (W : World) (s : ByteArray) : RBytes (worldB W s) (.slice (some ⟨W.heap.size, 0, none⟩) s.size (capB W s)) s.data.toList := by
  refine .inr ⟨⟨W.heap.size, 0, none⟩, capB W s, ?_, fun _ => ⟨W.heap.size, 0, rfl, ?_, fun i hi => ?_⟩⟩
  · have e : s.data.toList.length = s.size := by simp
    rw [e]
  · have := Lib.bytesWorld_size W 5 s
    show W.heap.size < (Lib.bytesWorld W 5 s).heap.size
    omega
  · have h := Lib.bytesWorld_cell W 5 s i (by simpa using hi)
    rw [Nat.zero_add]
    refine h.trans ?_
    rw [List.getD_eq_getElem?_getD, List.getElem?_eq_getElem hi]
    rfl

def BackRel (w : World) (l : List Int) (k : Nat) (v : Value) (wr : World) : Prop :=
  Own w.heap.size v ((l.take k).map Dec.fix) wr ∧ Below w.heap.size w wr

theorem own_cast {B : Nat} {v : Value} {l l' : List Int} {w : World} (h : Own B v l w) (e : l = l') : Own B v l' w := e ▸ h

theorem drewN_below (w : World) (n : Nat) : Below w.heap.size w (w.drewN n) := ⟨rfl, rfl, rfl, Nat.le_refl _, fun _ _ => rfl⟩

theorem bytes_cast {w : World} {v : Value} {a b : List UInt8} (h : RBytes w v a) (e : a = b) : RBytes w v b := e ▸ h

theorem sameB_eq {a b : List Int} (h : a = b) : sameB a b = true := decide_eq_true h

theorem back_step {w w3 : World} {l : List Int} {k : Nat} {r x : Int} {v : Value} (hk : k < l.length) (hr : l[k] = r) (hx : Dec.fix r = x)
    (h : w3.ownsRow w.heap.size 3 1 v (((l.take k).map Dec.fix).length + 1) (((l.take k).map Dec.fix).map (Value.int .i64) ++ [.int .i64 x])) (hb : Below w.heap.size w w3) : BackRel w l (k + 1) v w3 := by
  refine ⟨?_, hb⟩
  rw [List.take_succ_eq_append_getElem hk, List.map_append, hr]
  refine own_of_row h (by simp) ?_
  rw [List.map_append]
  simp [hx]

set_option maxHeartbeats 800000 in
theorem decBack_short (p : Option Addr) (cap : Nat) (l : List Int) (w : World) (hT : Lib.Utf8Tabs 0 1 w) (hlen : l.length ≤ 200) (hr : RInts w (.slice p l.length cap) l) :
    Calls Tryd.prog 4 #[.slice p l.length cap] w fun e w' => e = .returned (.bool true) ∧ Below w.heap.size w w' := by
  have hp := Lib.hid (ints_at hr)
  have hr := Lib.hid hr
  obtain ⟨i0, hi, hz0, hz1, hz2⟩ := info_parts info_int
  have hT' := Lib.hid hT
  have hlen' : (l.length : Int) ≤ 200 := by omega
  have hcv := run_toBytes
  clear hT
  go_enter Tryd.func4, Tryd.ntmps4
  go_wp2_with fail
  refine (awake_any w hT'.out).mono ?_
  rintro e w1 ⟨rfl, hb1⟩
  go_wp2_with fail
  go_loopw [4, 5] (fun v i wr => ∃ k : Nat, k ≤ l.length ∧ i = .int .i64 k ∧ BackRel w l k v wr) (fun _ i _ => l.length - (RowKit.intOf i).toNat)
  case atStart => exact ⟨0, Nat.zero_le _, rfl, own_nil _ _, hb1⟩
  case round =>
    obtain ⟨k, hk, rfl, hown, hbel⟩ := hrel
    by_cases hlt : k < l.length
    · obtain ⟨r, hrr⟩ : ∃ r, l[k] = r := ⟨_, rfl⟩
      obtain ⟨b, off, rfl, hb, hc⟩ := hp.out (by omega)
      have hcell : wr.cell? ⟨b, off + k, none⟩ = some (.int .i64 r) := by
        rw [hbel.cell hb, ← hrr]
        exact hc k hlt
      clear hc
      have hrr := Lib.hid hrr
      have hown := Lib.hid hown
      have hm1 : ((l.take k).map Dec.fix).length + 1 ≤ maxLen := by simp [maxLen]; omega
      have hm2 : (((l.take k).map Dec.fix).length + 1) * 8 ≤ 140737488355328 := by simp; omega
      have hm3 : w.heap.size ≤ (wr.alloc (Obj.cells #[Value.int IntKind.i64 0] 3)).heap.size := by have := hbel.size; simp; omega
      have hm3 : ∀ x, w.heap.size ≤ (wr.alloc (Obj.cells #[Value.int IntKind.i64 x] 3)).heap.size := fun x => by have := hbel.size; simp; omega
      have hm1 := Lib.hid hm1
      have hm2 := Lib.hid hm2
      have hm3 := Lib.hid hm3
      cases hg : Dec.goodB r with
      | true =>
        have hfx : Dec.fix r = r := Dec.fix_good hg
        have hfx := Lib.hid hfx
        have hg := Lib.hid hg
        go_wp2_with fail
        refine (good_any r wr).mono ?_
        rintro e w2 ⟨rfl, rfl⟩
        rw [hg.out]
        go_wp2_with (at_builtin; refine wpList_append_own _ rfl _ _ 25 rfl w.heap.size 3 i0 (.int .i64 0) 1 8 Tryd.underlying25 hi hz0 hz1 hz2 rfl (by decide) _ _ _ rfl (own_alloc hown.out _) ⟨wr.heap.size, 0, none⟩ 1 1 [.int .i64 r] rfl rfl (cell_one_new _ _ _) (ints_oneCell [r]) hm1.out hm2.out (hm3.out _) ?_; intro v5 w5 hown5 hgrow5 _)
        go_roundw
        case rel => exact ⟨k + 1, by omega, by go_num, back_step hlt hrr.out hfx.out hown5 (below_grown (hbel.alloc hbel.size _) hgrow5 (by simp; have := hbel.size; omega) (own_alloc hown.out _) (Nat.le_refl _))⟩
        case measure => simp [RowKit.intOf]; omega
      | false =>
        have hfx : Dec.fix r = 65533 := by unfold Dec.fix; rw [hg]; rfl
        have hfx := Lib.hid hfx
        have hg := Lib.hid hg
        go_wp2_with fail
        refine (good_any r wr).mono ?_
        rintro e w2 ⟨rfl, rfl⟩
        rw [hg.out]
        go_wp2_with (at_builtin; refine wpList_append_own _ rfl _ _ 25 rfl w.heap.size 3 i0 (.int .i64 0) 1 8 Tryd.underlying25 hi hz0 hz1 hz2 rfl (by decide) _ _ _ rfl (own_alloc hown.out _) ⟨wr.heap.size, 0, none⟩ 1 1 [.int .i64 65533] rfl rfl (cell_one_new _ _ _) (ints_oneCell [65533]) hm1.out hm2.out (hm3.out _) ?_; intro v5 w5 hown5 hgrow5 _)
        go_roundw
        case rel => exact ⟨k + 1, by omega, by go_num, back_step hlt hrr.out hfx.out hown5 (below_grown (hbel.alloc hbel.size _) hgrow5 (by simp; have := hbel.size; omega) (own_alloc hown.out _) (Nat.le_refl _))⟩
        case measure => simp [RowKit.intOf]; omega
    · have hkk : k = l.length := by omega
      have hown2 := own_cast (l' := l.map Dec.fix) hown (by rw [hkk, List.take_length])
      have hown2 := Lib.hid hown2
      have hri := Lib.hid (ints_below hr.out hbel)
      clear hown hkk
      go_wp2_with fail
      refine (text_any _ l wr (by omega) hri.out).mono ?_
      rintro e w2 ⟨rfl, hb2⟩
      have hbel2 := hbel.trans (hb2.mono hbel.size)
      have hri2 := Lib.hid (ints_below (ints_of_own hown2.out) hb2)
      obtain ⟨s, hs⟩ : ∃ s, (⟨(Dec.textL l).toArray⟩ : ByteArray) = s := ⟨_, rfl⟩
      rw [hs]
      have hsl : s.data.toList = Dec.textL l := by rw [← hs]
      have hsl := Lib.hid hsl
      clear hs hb2
      have hwb := worldB_below w2 s
      have hT3 := Lib.hid (Utf8Tabs_below (Utf8Tabs_below hT'.out hbel2) hwb)
      have hrb := Lib.hid (bytes_cast (worldB_reads w2 s) hsl.out)
      have hbel3 := hbel2.trans (hwb.mono hbel2.size)
      have hri3 := Lib.hid (ints_below hri2.out hwb)
      have htl := Dec.textL_len l
      clear hwb
      go_wp2_with fail
      refine (all_any _ _ _ hT3.out (by omega) hrb.out).mono ?_
      rintro e w4 ⟨v4, rfl, hown4, hb4⟩
      have hfin := Lib.hid (sameB_eq (Dec.all_text l))
      have hri4 := Lib.hid (ints_below hri3.out hb4)
      have hri5 := Lib.hid (ints_of_own hown4)
      have hbel4 := hbel3.trans (hb4.mono hbel3.size)
      have hl4 : (Dec.allL (Dec.textL l)).length ≤ 100000 := by rw [Dec.all_text]; simp; omega
      have hl4 := Lib.hid hl4
      clear hown4 hb4 htl
      go_wp2_with fail
      refine (same_any _ _ _ _ w4 hl4.out hri5.out hri4.out).mono ?_
      rintro e w5 ⟨rfl, n5, rfl⟩
      rw [hfin.out]
      go_wp2_with fail
      go_ret
      exact ⟨rfl, hbel4.trans ((drewN_below _ _).mono hbel4.size)⟩

set_option maxHeartbeats 800000 in
theorem decBack_long (p : Option Addr) (n cap : Nat) (w : World) (hT : Lib.Utf8Tabs 0 1 w) (hlen : 200 < n) :
    Calls Tryd.prog 4 #[.slice p n cap] w fun e w' => e = .returned (.bool true) ∧ Below w.heap.size w w' := by
  have hT' := Lib.hid hT
  have hlen' : (200 : Int) < (n : Int) := by omega
  clear hT
  go_enter Tryd.func4, Tryd.ntmps4
  go_wp2_with fail
  refine (awake_any w hT'.out).mono ?_
  rintro e w1 ⟨rfl, hb1⟩
  go_wp2_with fail
  go_ret
  exact ⟨rfl, hb1⟩

theorem decBack_walk (v : Value) (l : List Int) (w : World) (hT : Lib.Utf8Tabs 0 1 w) (hr : RInts w v l) :
    Calls Tryd.prog 4 #[v] w fun e w' => e = .returned (.bool true) ∧ Below w.heap.size w w' := by
  obtain ⟨p, cap, rfl⟩ := ints_form hr
  by_cases hl : l.length ≤ 200
  · exact decBack_short p cap l w hT hl hr
  · exact decBack_long p _ cap w hT (by omega)

end Go.Proofs.YthpgoknenhppmaaDoor
