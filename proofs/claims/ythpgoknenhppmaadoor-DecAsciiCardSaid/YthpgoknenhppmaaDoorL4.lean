/- The walks of layer 1's statements, on: DecSizes. -/
import Derived.Test.YthpgoknenhppmaaDoorL3
namespace Go.Proofs.YthpgoknenhppmaaDoor
open Go.RowKit Go.Lib

theorem repl_text (r : Int) (h : Dec.goodB r = false) : (⟨(Dec.textL [r]).toArray⟩ : ByteArray) = ⟨#[239, 191, 189]⟩ := by
  have e : Dec.fix r = 65533 := by unfold Dec.fix; rw [h]; rfl
  have e2 : Dec.textL [r] = Lib.encodeRune (Dec.fix r) := by simp [Dec.textL]
  rw [e2, e]
  rfl

theorem one_ints (w : World) (x : Int) (k : Nat) (hk : w.heap.size = k) : RInts (w.alloc (.cells #[.int .i64 x] 3)) (.slice (some ⟨k, 0, none⟩) 1 1) [x] :=
  ints_of_own (own_one_at 0 x w k hk (Nat.zero_le _))

set_option maxHeartbeats 800000 in
theorem decSizes_bad (r : Int) (w : World) (hT : Lib.Utf8Tabs 0 1 w) (hg : Dec.goodB r = false) :
    Calls Tryd.prog 8 #[.int .i64 r] w fun e w' => e = .returned (.bool true) ∧ Below w.heap.size w w' := by
  have hT' := Lib.hid hT
  have hrt := Lib.hid (repl_text r hg)
  replace hg := Lib.hid hg
  clear hT
  go_enter Tryd.func8, Tryd.ntmps8
  go_wp2_with fail
  refine (awake_any w hT'.out).mono ?_
  rintro e w1 ⟨rfl, hb1⟩
  go_wp2_with fail
  refine (good_any r w1).mono ?_
  rintro e w2 ⟨rfl, rfl⟩
  rw [hg.out]
  go_wp2_with fail
  refine (text_any _ [r] _ (by simp) (one_ints w1 r w1.heap.size rfl)).mono ?_
  rintro e w3 ⟨rfl, hb3⟩
  have hbel3 := hb1.trans (below_in hb3 |>.mono hb1.size)
  rw [hrt.out]
  clear hb3
  go_wp2_with fail
  go_ret
  exact ⟨rfl, hbel3⟩

/-- what is known of a form's bytes, as the walk asks it -/
structure Sized (s : ByteArray) (n : Nat) : Prop where
  size : s.size = n
  beg : ∀ k, 1 ≤ k → k < n → Dec.begB (s.extract 0 k) = true
  all : ∀ k, 1 ≤ k → k < n → Dec.allL (s.extract 0 k).data.toList = [65533]
  sane : Dec.saneB s = false

theorem sized_of (r : Int) (hg : Dec.goodB r = true) (n : Nat) (hn : n = if r < 128 then 1 else if r < 2048 then 2 else if r < 65536 then 3 else 4) : Sized ⟨(Dec.textL [r]).toArray⟩ n := by
  have e2 : Dec.textL [r] = Lib.encodeRune r := by simp [Dec.textL, Dec.fix_good hg]
  rw [e2]
  have f := Dec.form_enc r hg
  have hlen : (Lib.encodeRune r).length = n := f.len.trans hn.symm
  have hx : ∀ k, ((⟨(Lib.encodeRune r).toArray⟩ : ByteArray).extract 0 k).data.toList = (Lib.encodeRune r).take k := fun k => by
    rw [Lib.extract_data]
    simp
  have hx2 : ∀ k, ((⟨(Lib.encodeRune r).toArray⟩ : ByteArray).extract 0 k) = ⟨((Lib.encodeRune r).take k).toArray⟩ := fun k => by
    rw [Dec.eta ((⟨(Lib.encodeRune r).toArray⟩ : ByteArray).extract 0 k), hx]
  refine ⟨?_, fun k h1 h2 => ?_, fun k h1 h2 => ?_, ?_⟩
  · show (Lib.encodeRune r).toArray.size = n
    simpa using hlen
  · rw [hx2, Dec.begB_eq]
    exact f.beg k h1 (by omega)
  · rw [hx, Dec.allL_eq]
    unfold Dec.allLL
    rw [Dec.run_prefix f k (by omega)]
    unfold Dec.endLL
    rw [if_pos (f.beg k h1 (by omega))]
    rfl
  · rw [Dec.saneB_eq]
    unfold Dec.saneL
    rw [f.nobeg]
    have : (Lib.encodeRune r).length ≠ 0 := by
      rw [hlen, hn]
      repeat' split
      all_goals omega
    simpa using this

def SizesRel (w : World) (n : Nat) (i : Value) (wr : World) : Prop := ∃ k : Nat, 1 ≤ k ∧ k ≤ n ∧ i = .int .i64 k ∧ Below w.heap.size w wr

set_option maxHeartbeats 1600000 in
theorem decSizes_good (r : Int) (w : World) (hT : Lib.Utf8Tabs 0 1 w) (hg : Dec.goodB r = true) (n : Nat) (hn : n = if r < 128 then 1 else if r < 2048 then 2 else if r < 65536 then 3 else 4) :
    Calls Tryd.prog 8 #[.int .i64 r] w fun e w' => e = .returned (.bool true) ∧ Below w.heap.size w w' := by
  have hT' := Lib.hid hT
  have hsd := sized_of r hg n hn
  replace hg := Lib.hid hg
  have hcv := run_toBytes
  obtain ⟨s, hs⟩ : ∃ s, (⟨(Dec.textL [r]).toArray⟩ : ByteArray) = s := ⟨_, rfl⟩
  rw [hs] at hsd
  replace hs := Lib.hid hs
  clear hT
  rcases (by omega : r < 128 ∨ (128 ≤ r ∧ r < 2048) ∨ (2048 ≤ r ∧ r < 65536) ∨ 65536 ≤ r) with hr | hr | hr | hr
  · rw [if_pos hr] at hn
    subst hn
    have d1 : decide (r < 65536) = true := by simp; omega
    have d2 : decide (r < 2048) = true := by simp; omega
    have d3 : decide (r < 128) = true := by simp; omega
    have hsz := Lib.hid hsd.size
    have hsz1 : (s.size : Int) = 1 := by have := hsz.out; omega
    have hsz2 : s.size = 1 := hsz.out
    go_enter Tryd.func8, Tryd.ntmps8
    go_wp2_with fail
    refine (awake_any w hT'.out).mono ?_
    rintro e w1 ⟨rfl, hb1⟩
    go_wp2_with fail
    refine (good_any r w1).mono ?_
    rintro e w2 ⟨rfl, rfl⟩
    rw [hg.out]
    go_wp2_with fail
    refine (text_any _ [r] _ (by simp) (one_ints w1 r w1.heap.size rfl)).mono ?_
    rintro e w3 ⟨rfl, hb3⟩
    have hbel3 := hb1.trans (below_in hb3 |>.mono hb1.size)
    rw [hs.out]
    clear hb3
    go_wp2_with fail
    go_loopw [6] (fun i wr => SizesRel w 1 i wr) (fun i _ => 1 - (RowKit.intOf i).toNat)
    case atStart => exact ⟨1, by decide, by decide, rfl, hbel3⟩
    case round =>
      obtain ⟨k, hk1, hk2, rfl, hbel⟩ := hrel
      by_cases hlt : k < 1
      · exact absurd hlt (by omega)
      · have hkk : ¬ (k : Int) < 1 := by omega
        have hsane := Lib.hid hsd.sane
        go_wp2_with fail
        refine (sane_any s wr (Utf8Tabs_below hT'.out hbel)).mono ?_
        rintro e w4 ⟨rfl, hb4⟩
        have hbel4 := hbel.trans (hb4.mono hbel.size)
        rw [hsane.out]
        clear hb4
        go_wp2_with fail
        refine (end_any ⟨#[]⟩ w4 (Utf8Tabs_below hT'.out hbel4)).mono ?_
        rintro e w5 ⟨v5, rfl, hown5, hb5⟩
        rw [if_neg (by decide)] at hown5
        have hbel5 := hbel4.trans (hb5.mono hbel4.size)
        obtain ⟨p5, c5, rfl⟩ := ints_form (ints_of_own hown5)
        clear hb5 hown5
        go_wp2_with fail
        go_ret
        exact ⟨rfl, hbel5⟩
  · rw [if_neg (by omega), if_pos hr.2] at hn
    subst hn
    have d1 : decide (r < 65536) = true := by simp; omega
    have d2 : decide (r < 2048) = true := by simp; omega
    have d3 : decide (r < 128) = false := by simp; omega
    have hsz := Lib.hid hsd.size
    have hsz1 : (s.size : Int) = 2 := by have := hsz.out; omega
    have hsz2 : s.size = 2 := hsz.out
    go_enter Tryd.func8, Tryd.ntmps8
    go_wp2_with fail
    refine (awake_any w hT'.out).mono ?_
    rintro e w1 ⟨rfl, hb1⟩
    go_wp2_with fail
    refine (good_any r w1).mono ?_
    rintro e w2 ⟨rfl, rfl⟩
    rw [hg.out]
    go_wp2_with fail
    refine (text_any _ [r] _ (by simp) (one_ints w1 r w1.heap.size rfl)).mono ?_
    rintro e w3 ⟨rfl, hb3⟩
    have hbel3 := hb1.trans (below_in hb3 |>.mono hb1.size)
    rw [hs.out]
    clear hb3
    go_wp2_with fail
    go_loopw [6] (fun i wr => SizesRel w 2 i wr) (fun i _ => 2 - (RowKit.intOf i).toNat)
    case atStart => exact ⟨1, by decide, by decide, rfl, hbel3⟩
    case round =>
      obtain ⟨k, hk1, hk2, rfl, hbel⟩ := hrel
      by_cases hlt : k < 2
      · obtain ⟨sk, hsk⟩ : ∃ sk, s.extract 0 k = sk := ⟨_, rfl⟩
        have hbeg := hsd.beg k hk1 hlt
        have hall := hsd.all k hk1 hlt
        rw [hsk] at hbeg hall
        have hsane : Dec.saneB sk = true := by unfold Dec.saneB; rw [hbeg]; simp
        replace hbeg := Lib.hid hbeg
        replace hsane := Lib.hid hsane
        replace hall := Lib.hid hall
        have hks : sk.data.toList.length ≤ 100000 := by
          rw [← hsk, Lib.extract_data]
          have := List.length_take_le (k - 0) (s.data.toList.drop 0)
          omega
        replace hks := Lib.hid hks
        have hlt1 : (k : Int) < 2 := by omega
        have hk3 : (k : Int) ≤ 2 := by omega
        go_wp2_with fail
        refine (end_any sk wr (Utf8Tabs_below hT'.out hbel)).mono ?_
        rintro e w4 ⟨v4, rfl, hown4, hb4⟩
        rw [if_pos hbeg.out] at hown4
        have hbel4 := hbel.trans (hb4.mono hbel.size)
        have hi4 := ints_of_own hown4
        obtain ⟨p4, c4, rfl⟩ := ints_form hi4
        obtain ⟨b4, o4, rfl, hlt4, hc4⟩ := ints_at hi4 (by simp)
        have hc4 := hc4 0 (by simp)
        clear hb4 hown4 hi4
        go_wp2_with fail
        refine (sane_any sk w4 (Utf8Tabs_below hT'.out hbel4)).mono ?_
        rintro e w5 ⟨rfl, hb5⟩
        rw [hsane.out]
        have hbel5 := hbel4.trans (hb5.mono hbel4.size)
        have hc5 : w5.cell? ⟨b4, o4, none⟩ = some (.int .i64 65533) := by rw [hb5.cell hlt4]; simpa using hc4
        clear hb5 hc4
        have hwb := worldB_below w5 sk
        have hT5 := Lib.hid (Utf8Tabs_below (Utf8Tabs_below hT'.out hbel5) hwb)
        have hbel6 := hbel5.trans (hwb.mono hbel5.size)
        have hrb := Lib.hid (worldB_reads w5 sk)
        clear hwb
        go_wp2_with fail
        refine (all_any _ _ _ hT5.out hks.out hrb.out).mono ?_
        rintro e w7 ⟨v7, rfl, hown7, hb7⟩
        rw [hall.out] at hown7
        have hbel7 := hbel6.trans (hb7.mono hbel6.size)
        obtain ⟨p7, c7, rfl⟩ := ints_form (ints_of_own hown7)
        clear hb7 hown7
        go_wp2_with fail
        go_roundw
        case rel => exact ⟨k + 1, by omega, by omega, by go_num, hbel7⟩
        case measure => simp [RowKit.intOf]; omega
      · have hkk : ¬ (k : Int) < 2 := by omega
        have hsane := Lib.hid hsd.sane
        go_wp2_with fail
        refine (sane_any s wr (Utf8Tabs_below hT'.out hbel)).mono ?_
        rintro e w4 ⟨rfl, hb4⟩
        have hbel4 := hbel.trans (hb4.mono hbel.size)
        rw [hsane.out]
        clear hb4
        go_wp2_with fail
        refine (end_any ⟨#[]⟩ w4 (Utf8Tabs_below hT'.out hbel4)).mono ?_
        rintro e w5 ⟨v5, rfl, hown5, hb5⟩
        rw [if_neg (by decide)] at hown5
        have hbel5 := hbel4.trans (hb5.mono hbel4.size)
        obtain ⟨p5, c5, rfl⟩ := ints_form (ints_of_own hown5)
        clear hb5 hown5
        go_wp2_with fail
        go_ret
        exact ⟨rfl, hbel5⟩
  · rw [if_neg (by omega), if_neg (by omega), if_pos hr.2] at hn
    subst hn
    have d1 : decide (r < 65536) = true := by simp; omega
    have d2 : decide (r < 2048) = false := by simp; omega
    have d3 : decide (r < 128) = false := by simp; omega
    have hsz := Lib.hid hsd.size
    have hsz1 : (s.size : Int) = 3 := by have := hsz.out; omega
    have hsz2 : s.size = 3 := hsz.out
    go_enter Tryd.func8, Tryd.ntmps8
    go_wp2_with fail
    refine (awake_any w hT'.out).mono ?_
    rintro e w1 ⟨rfl, hb1⟩
    go_wp2_with fail
    refine (good_any r w1).mono ?_
    rintro e w2 ⟨rfl, rfl⟩
    rw [hg.out]
    go_wp2_with fail
    refine (text_any _ [r] _ (by simp) (one_ints w1 r w1.heap.size rfl)).mono ?_
    rintro e w3 ⟨rfl, hb3⟩
    have hbel3 := hb1.trans (below_in hb3 |>.mono hb1.size)
    rw [hs.out]
    clear hb3
    go_wp2_with fail
    go_loopw [6] (fun i wr => SizesRel w 3 i wr) (fun i _ => 3 - (RowKit.intOf i).toNat)
    case atStart => exact ⟨1, by decide, by decide, rfl, hbel3⟩
    case round =>
      obtain ⟨k, hk1, hk2, rfl, hbel⟩ := hrel
      by_cases hlt : k < 3
      · obtain ⟨sk, hsk⟩ : ∃ sk, s.extract 0 k = sk := ⟨_, rfl⟩
        have hbeg := hsd.beg k hk1 hlt
        have hall := hsd.all k hk1 hlt
        rw [hsk] at hbeg hall
        have hsane : Dec.saneB sk = true := by unfold Dec.saneB; rw [hbeg]; simp
        replace hbeg := Lib.hid hbeg
        replace hsane := Lib.hid hsane
        replace hall := Lib.hid hall
        have hks : sk.data.toList.length ≤ 100000 := by
          rw [← hsk, Lib.extract_data]
          have := List.length_take_le (k - 0) (s.data.toList.drop 0)
          omega
        replace hks := Lib.hid hks
        have hlt1 : (k : Int) < 3 := by omega
        have hk3 : (k : Int) ≤ 3 := by omega
        go_wp2_with fail
        refine (end_any sk wr (Utf8Tabs_below hT'.out hbel)).mono ?_
        rintro e w4 ⟨v4, rfl, hown4, hb4⟩
        rw [if_pos hbeg.out] at hown4
        have hbel4 := hbel.trans (hb4.mono hbel.size)
        have hi4 := ints_of_own hown4
        obtain ⟨p4, c4, rfl⟩ := ints_form hi4
        obtain ⟨b4, o4, rfl, hlt4, hc4⟩ := ints_at hi4 (by simp)
        have hc4 := hc4 0 (by simp)
        clear hb4 hown4 hi4
        go_wp2_with fail
        refine (sane_any sk w4 (Utf8Tabs_below hT'.out hbel4)).mono ?_
        rintro e w5 ⟨rfl, hb5⟩
        rw [hsane.out]
        have hbel5 := hbel4.trans (hb5.mono hbel4.size)
        have hc5 : w5.cell? ⟨b4, o4, none⟩ = some (.int .i64 65533) := by rw [hb5.cell hlt4]; simpa using hc4
        clear hb5 hc4
        have hwb := worldB_below w5 sk
        have hT5 := Lib.hid (Utf8Tabs_below (Utf8Tabs_below hT'.out hbel5) hwb)
        have hbel6 := hbel5.trans (hwb.mono hbel5.size)
        have hrb := Lib.hid (worldB_reads w5 sk)
        clear hwb
        go_wp2_with fail
        refine (all_any _ _ _ hT5.out hks.out hrb.out).mono ?_
        rintro e w7 ⟨v7, rfl, hown7, hb7⟩
        rw [hall.out] at hown7
        have hbel7 := hbel6.trans (hb7.mono hbel6.size)
        obtain ⟨p7, c7, rfl⟩ := ints_form (ints_of_own hown7)
        clear hb7 hown7
        go_wp2_with fail
        go_roundw
        case rel => exact ⟨k + 1, by omega, by omega, by go_num, hbel7⟩
        case measure => simp [RowKit.intOf]; omega
      · have hkk : ¬ (k : Int) < 3 := by omega
        have hsane := Lib.hid hsd.sane
        go_wp2_with fail
        refine (sane_any s wr (Utf8Tabs_below hT'.out hbel)).mono ?_
        rintro e w4 ⟨rfl, hb4⟩
        have hbel4 := hbel.trans (hb4.mono hbel.size)
        rw [hsane.out]
        clear hb4
        go_wp2_with fail
        refine (end_any ⟨#[]⟩ w4 (Utf8Tabs_below hT'.out hbel4)).mono ?_
        rintro e w5 ⟨v5, rfl, hown5, hb5⟩
        rw [if_neg (by decide)] at hown5
        have hbel5 := hbel4.trans (hb5.mono hbel4.size)
        obtain ⟨p5, c5, rfl⟩ := ints_form (ints_of_own hown5)
        clear hb5 hown5
        go_wp2_with fail
        go_ret
        exact ⟨rfl, hbel5⟩
  · rw [if_neg (by omega), if_neg (by omega), if_neg (by omega)] at hn
    subst hn
    have d1 : decide (r < 65536) = false := by simp; omega
    have d2 : decide (r < 2048) = false := by simp; omega
    have d3 : decide (r < 128) = false := by simp; omega
    have hsz := Lib.hid hsd.size
    have hsz1 : (s.size : Int) = 4 := by have := hsz.out; omega
    have hsz2 : s.size = 4 := hsz.out
    go_enter Tryd.func8, Tryd.ntmps8
    go_wp2_with fail
    refine (awake_any w hT'.out).mono ?_
    rintro e w1 ⟨rfl, hb1⟩
    go_wp2_with fail
    refine (good_any r w1).mono ?_
    rintro e w2 ⟨rfl, rfl⟩
    rw [hg.out]
    go_wp2_with fail
    refine (text_any _ [r] _ (by simp) (one_ints w1 r w1.heap.size rfl)).mono ?_
    rintro e w3 ⟨rfl, hb3⟩
    have hbel3 := hb1.trans (below_in hb3 |>.mono hb1.size)
    rw [hs.out]
    clear hb3
    go_wp2_with fail
    go_loopw [6] (fun i wr => SizesRel w 4 i wr) (fun i _ => 4 - (RowKit.intOf i).toNat)
    case atStart => exact ⟨1, by decide, by decide, rfl, hbel3⟩
    case round =>
      obtain ⟨k, hk1, hk2, rfl, hbel⟩ := hrel
      by_cases hlt : k < 4
      · obtain ⟨sk, hsk⟩ : ∃ sk, s.extract 0 k = sk := ⟨_, rfl⟩
        have hbeg := hsd.beg k hk1 hlt
        have hall := hsd.all k hk1 hlt
        rw [hsk] at hbeg hall
        have hsane : Dec.saneB sk = true := by unfold Dec.saneB; rw [hbeg]; simp
        replace hbeg := Lib.hid hbeg
        replace hsane := Lib.hid hsane
        replace hall := Lib.hid hall
        have hks : sk.data.toList.length ≤ 100000 := by
          rw [← hsk, Lib.extract_data]
          have := List.length_take_le (k - 0) (s.data.toList.drop 0)
          omega
        replace hks := Lib.hid hks
        have hlt1 : (k : Int) < 4 := by omega
        have hk3 : (k : Int) ≤ 4 := by omega
        go_wp2_with fail
        refine (end_any sk wr (Utf8Tabs_below hT'.out hbel)).mono ?_
        rintro e w4 ⟨v4, rfl, hown4, hb4⟩
        rw [if_pos hbeg.out] at hown4
        have hbel4 := hbel.trans (hb4.mono hbel.size)
        have hi4 := ints_of_own hown4
        obtain ⟨p4, c4, rfl⟩ := ints_form hi4
        obtain ⟨b4, o4, rfl, hlt4, hc4⟩ := ints_at hi4 (by simp)
        have hc4 := hc4 0 (by simp)
        clear hb4 hown4 hi4
        go_wp2_with fail
        refine (sane_any sk w4 (Utf8Tabs_below hT'.out hbel4)).mono ?_
        rintro e w5 ⟨rfl, hb5⟩
        rw [hsane.out]
        have hbel5 := hbel4.trans (hb5.mono hbel4.size)
        have hc5 : w5.cell? ⟨b4, o4, none⟩ = some (.int .i64 65533) := by rw [hb5.cell hlt4]; simpa using hc4
        clear hb5 hc4
        have hwb := worldB_below w5 sk
        have hT5 := Lib.hid (Utf8Tabs_below (Utf8Tabs_below hT'.out hbel5) hwb)
        have hbel6 := hbel5.trans (hwb.mono hbel5.size)
        have hrb := Lib.hid (worldB_reads w5 sk)
        clear hwb
        go_wp2_with fail
        refine (all_any _ _ _ hT5.out hks.out hrb.out).mono ?_
        rintro e w7 ⟨v7, rfl, hown7, hb7⟩
        rw [hall.out] at hown7
        have hbel7 := hbel6.trans (hb7.mono hbel6.size)
        obtain ⟨p7, c7, rfl⟩ := ints_form (ints_of_own hown7)
        clear hb7 hown7
        go_wp2_with fail
        go_roundw
        case rel => exact ⟨k + 1, by omega, by omega, by go_num, hbel7⟩
        case measure => simp [RowKit.intOf]; omega
      · have hkk : ¬ (k : Int) < 4 := by omega
        have hsane := Lib.hid hsd.sane
        go_wp2_with fail
        refine (sane_any s wr (Utf8Tabs_below hT'.out hbel)).mono ?_
        rintro e w4 ⟨rfl, hb4⟩
        have hbel4 := hbel.trans (hb4.mono hbel.size)
        rw [hsane.out]
        clear hb4
        go_wp2_with fail
        refine (end_any ⟨#[]⟩ w4 (Utf8Tabs_below hT'.out hbel4)).mono ?_
        rintro e w5 ⟨v5, rfl, hown5, hb5⟩
        rw [if_neg (by decide)] at hown5
        have hbel5 := hbel4.trans (hb5.mono hbel4.size)
        obtain ⟨p5, c5, rfl⟩ := ints_form (ints_of_own hown5)
        clear hb5 hown5
        go_wp2_with fail
        go_ret
        exact ⟨rfl, hbel5⟩

theorem decSizes_walk (r : Int) (w : World) (hT : Lib.Utf8Tabs 0 1 w) (_hr : -9223372036854775808 ≤ r ∧ r ≤ 9223372036854775807) :
    Calls Tryd.prog 8 #[.int .i64 r] w fun e w' => e = .returned (.bool true) ∧ Below w.heap.size w w' := by
  cases hg : Dec.goodB r with
  | true => exact decSizes_good r w hT hg _ rfl
  | false => exact decSizes_bad r w hT hg

end Go.Proofs.YthpgoknenhppmaaDoor
