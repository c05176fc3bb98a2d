/- The walks of layer 1's statements, on: DecRows. -/
import Derived.Test.YthpgoknenhppmaaDoorL2
import Derived.Test.YthpgoknenhppmaaDoorK2
import Derived.Lib.AppendStr
namespace Go.Proofs.YthpgoknenhppmaaDoor
open Go.RowKit Go.Lib

theorem info_byte : (Tryd.prog.info? 5).map (fun i => (i.zero, i.size, i.bytes)) = some (some (.int .u8 0), 1, 1) := by kernel_rfl

/-- the slice value v is the call's own (from block B on), and holds these bytes -/
def OwnB (B : Nat) (v : Value) (l : List UInt8) (w : World) : Prop := w.ownsRow B 5 1 v l.length (Lib.byteCells l)

theorem ownB_of_row {B n : Nat} {v : Value} {l : List UInt8} {xs : List Value} {w : World} (h : w.ownsRow B 5 1 v n xs) (hn : n = l.length) (hx : xs = Lib.byteCells l) : OwnB B v l w := by
  subst hn
  subst hx
  exact h

theorem ownB_below {B : Nat} {v : Value} {l : List UInt8} {w w1 : World} (h : OwnB B v l w) (hb : Below w.heap.size w w1) : OwnB B v l w1 := by
  refine ⟨h.1, ?_⟩
  rcases h.2 with hn | ⟨g, cap, cur, hv, hg, hh, r⟩
  · exact .inl hn
  · exact .inr ⟨g, cap, cur, hv, hg, by rw [hb.block g (Array.getElem?_eq_some_iff.1 hh).1]; exact hh, r⟩

theorem own_below' {B : Nat} {v : Value} {l : List Int} {w w1 : World} (h : Own B v l w) (hb : Below w.heap.size w w1) : Own B v l w1 := by
  refine ⟨h.1, ?_⟩
  rcases h.2 with hn | ⟨g, cap, cur, hv, hg, hh, r⟩
  · exact .inl hn
  · exact .inr ⟨g, cap, cur, hv, hg, by rw [hb.block g (Array.getElem?_eq_some_iff.1 hh).1]; exact hh, r⟩

theorem bytes_of_own {B : Nat} {v : Value} {l : List UInt8} {w : World} (h : OwnB B v l w) : RBytes w v l := by
  have hc := fun g hg => World.ownsRow.cells (g := g) h hg
  have hlt := World.ownsRow.lt h
  rcases h.2 with ⟨rfl, hl⟩ | ⟨g, cap, cur, rfl, hB, _⟩
  · exact .inl ⟨rfl, List.eq_nil_of_length_eq_zero hl⟩
  · refine .inr ⟨⟨g, 0, none⟩, cap, rfl, fun _ => ⟨g, 0, rfl, (hlt g rfl).2, fun i hi => ?_⟩⟩
    have h := hc g rfl i (.int .u8 (l[i].toNat : Int)) (by simp [Lib.byteCells, hi])
    have hadd : (⟨g, 0, none⟩ : Addr).add i = ⟨g, i, none⟩ := by unfold Addr.add; split <;> simp_all
    rw [hadd] at h
    simpa using h

theorem own_made (B : Nat) (w : World) (k : Nat) (hk : w.heap.size = k) (hB : B ≤ w.heap.size) : Own B (.slice (some ⟨k, 0, none⟩) 0 0) [] (w.alloc (.cells #[] 3)) := by
  subst hk
  exact World.ownsRow_made w #[] 0 hB (by decide) rfl

theorem ownB_made (B : Nat) (w : World) (k : Nat) (hk : w.heap.size = k) (hB : B ≤ w.heap.size) : OwnB B (.slice (some ⟨k, 0, none⟩) 0 0) [] (w.alloc (.cells #[] 5)) := by
  subst hk
  exact World.ownsRow_made w #[] 0 hB (by decide) rfl

/-- what an append reads of such slices -/
theorem bytes_src {w : World} {v : Value} {l : List UInt8} (h : RBytes w v l) : Src w v (Lib.byteCells l) := by
  rcases h with ⟨rfl, rfl⟩ | ⟨a, cap, rfl, h⟩
  · exact .inl ⟨rfl, rfl⟩
  · refine .inr ⟨a, cap, by rw [Lib.byteCells_length], fun j u hu => ?_⟩
    have hj : j < l.length := by
      rcases Nat.lt_or_ge j l.length with hj | hj
      · exact hj
      · rw [List.getElem?_eq_none (by simpa [Lib.byteCells] using hj)] at hu
        cases hu
    obtain ⟨b, off, rfl, _, hc⟩ := h (by omega)
    have hadd : (⟨b, off, none⟩ : Addr).add j = ⟨b, off + j, none⟩ := by unfold Addr.add; split <;> simp_all
    rw [hadd, hc j hj]
    simpa [Lib.byteCells, hj] using hu

theorem bytes_oneCell (l : List UInt8) : ∀ u ∈ Lib.byteCells l, u.oneCell' = true := by
  intro u hu
  obtain ⟨x, _, rfl⟩ := List.mem_map.1 hu
  rfl

theorem ints_src {w : World} {v : Value} {l : List Int} (h : RInts w v l) : Src w v (l.map (Value.int .i64)) := by
  rcases h with ⟨rfl, rfl⟩ | ⟨a, cap, rfl, h⟩
  · exact .inl ⟨rfl, rfl⟩
  · refine .inr ⟨a, cap, by rw [List.length_map], fun j u hu => ?_⟩
    have hj : j < l.length := by
      rcases Nat.lt_or_ge j l.length with hj | hj
      · exact hj
      · rw [List.getElem?_eq_none (by simpa using hj)] at hu
        cases hu
    obtain ⟨b, off, rfl, _, hc⟩ := h (by omega)
    have hadd : (⟨b, off, none⟩ : Addr).add j = ⟨b, off + j, none⟩ := by unfold Addr.add; split <;> simp_all
    rw [hadd, hc j hj]
    simpa [hj] using hu

theorem drewN_len (l : List UInt8) : (Lib.byteCells l).length = l.length := Lib.byteCells_length l

set_option maxHeartbeats 800000 in
theorem decRows_long (p : Option Addr) (n cap : Nat) (p2 : Option Addr) (n2 cap2 : Nat) (w : World) (hT : Lib.Utf8Tabs 0 1 w) (hlen : 100 < n ∨ 200 < n2) :
    Calls Tryd.prog 7 #[.slice p n cap, .slice p2 n2 cap2] w fun e w' => e = .returned (.bool true) ∧ Below w.heap.size w w' := by
  have hT' := Lib.hid hT
  clear hT
  by_cases h1 : 100 < n
  · have h1 : (100 : Int) < (n : Int) := by omega
    go_enter Tryd.func7, Tryd.ntmps7
    go_wp2_with fail
    refine (awake_any w hT'.out).mono ?_
    rintro e w1 ⟨rfl, hb1⟩
    go_wp2_with fail
    go_ret
    exact ⟨rfl, hb1⟩
  · have h2 : (200 : Int) < (n2 : Int) := by omega
    have h1 : decide ((100 : Int) < (n : Int)) = false := by simp; omega
    go_enter Tryd.func7, Tryd.ntmps7
    go_wp2_with fail
    refine (awake_any w hT'.out).mono ?_
    rintro e w1 ⟨rfl, hb1⟩
    go_wp2_with fail
    go_ret
    exact ⟨rfl, hb1⟩

set_option maxHeartbeats 1600000 in
theorem decRows_short (v1 v2 : Value) (l : List Int) (bs : List UInt8) (w : World) (hT : Lib.Utf8Tabs 0 1 w) (hlen : l.length ≤ 100) (hlen2 : bs.length ≤ 200) (h1 : RInts w v1 l) (h2 : RBytes w v2 bs) :
    Calls Tryd.prog 7 #[v1, v2] w fun e w' => e = .returned (.bool true) ∧ Below w.heap.size w w' := by
  obtain ⟨p, cap, rfl⟩ := ints_form h1
  have hT' := Lib.hid hT
  have h1 := Lib.hid h1
  have e1 : decide ((100 : Int) < (l.length : Int)) = false := by simp; omega
  have e2 : decide ((200 : Int) < (bs.length : Int)) = false := by simp; omega
  have hcv := run_toBytes
  obtain ⟨ib, hbi, hbz0, hbz1, hbz2⟩ := info_parts info_byte
  obtain ⟨ii, hii, hiz0, hiz1, hiz2⟩ := info_parts info_int
  obtain ⟨p2, cap2, rfl⟩ := bytes_form h2
  have h2 := Lib.hid h2
  clear hT
  go_enter Tryd.func7, Tryd.ntmps7
  go_wp2_with fail
  refine (awake_any w hT'.out).mono ?_
  rintro e w1 ⟨rfl, hb1⟩
  have h11 := Lib.hid (ints_below h1.out hb1)
  go_wp2_with fail
  refine (text_any _ l w1 (by omega) h11.out).mono ?_
  rintro e w2 ⟨rfl, hb2⟩
  have hbel2 := hb1.trans (hb2.mono hb1.size)
  obtain ⟨s, hs⟩ : ∃ s, (⟨(Dec.textL l).toArray⟩ : ByteArray) = s := ⟨_, rfl⟩
  rw [hs]
  have hsl : s.data.toList = Dec.textL l := by rw [← hs]
  have hsz : s.size ≤ 400 := by
    have := Dec.textL_len l
    have e : s.size = (Dec.textL l).length := by rw [← hs]; simp [ByteArray.size]
    omega
  have hszl : s.size = (Dec.textL l).length := by rw [← hs]; simp [ByteArray.size]
  replace hszl := Lib.hid hszl
  replace hsl := Lib.hid hsl
  have hownA := Lib.hid (ownB_made w.heap.size w2 w2.heap.size rfl hbel2.size)
  have hbelA := hbel2.alloc hbel2.size (.cells #[] 5)
  clear hb1 hb2 hs
  go_wp2_with (first
    | (at_builtin; refine wpList_append_own_string _ rfl (.tmp 21) (.tmp 22) 24 9 rfl w.heap.size 5 ib Tryd.underlying24 Tryd.underlying9 hbi hbz0 hbz1 hbz2 _ _ _ rfl hownA.out s rfl (by simp [maxLen]; omega) (by simp; omega) hbelA.size ?_; intro v5 w5 hown5 hgrow5 _; have hbel5 := below_row hbelA hgrow5 hbelA.size hownA.out (Nat.le_refl _); have hown5 := Lib.hid hown5; have hs5 := Lib.hid (bytes_src (bytes_below h2.out hbel5)))
    | (at_builtin; refine wpList_append_src rfl (.tmp 24) (.tmp 25) 24 rfl w.heap.size 5 ib (.int .u8 0) 1 Tryd.underlying24 hbi hbz0 hbz1 hbz2 rfl _ _ _ rfl hown5.out _ _ rfl hs5.out (bytes_oneCell bs) (by rw [drewN_len]; simp [maxLen]; omega) (by rw [drewN_len]; simp; omega) hbel5.size ?_; intro v6 w6 hown6 hgrow6; have hbel6 := below_row hbel5 hgrow6 hbel5.size hown5.out (Nat.le_refl _); have hown6 := Lib.hid hown6))
  have hW := own_made w6.heap.size w6 w6.heap.size rfl (Nat.le_refl _)
  have hc7 := (Below.refl w6.heap.size w6).alloc (Nat.le_refl _) (.cells #[] 3)
  have hwb := worldB_below (w6.alloc (.cells #[] 3)) s
  have hc8 := hc7.trans (hwb.mono hc7.size)
  have hbel8 := hbel6.trans (hc8.mono hbel6.size)
  have hW8 := Lib.hid (own_below' hW hwb)
  have hrb := bytes_cast (worldB_reads (w6.alloc (.cells #[] 3)) s) hsl.out
  simp only [World.size_alloc] at hrb
  replace hrb := Lib.hid hrb
  have hT8 := Lib.hid (Utf8Tabs_below hT'.out hbel8)
  have hall6 : OwnB w.heap.size v6 (Dec.textL l ++ bs) w6 := by
    refine ownB_of_row hown6.out ?_ ?_
    · have := hszl.out; simp only [drewN_len, List.length_nil, List.length_append]; omega
    · rw [Lib.byteCells_append, ← hsl.out]; rfl
  have hall6 := Lib.hid (bytes_of_own hall6)
  have htl := Dec.textL_len l
  clear hwb hW hown5 hs5 hc7
  refine (all_any _ _ _ hT8.out (by omega) hrb.out).mono ?_
  rintro e w9 ⟨v9, rfl, hown9, hb9⟩
  have hc9 := hc8.trans (hb9.mono hc8.size)
  have hW9 := Lib.hid (own_below' hW8.out hb9)
  have hs9 := Lib.hid (ints_src (ints_of_own hown9))
  have hl9 := Dec.all_len (Dec.textL l)
  obtain ⟨L1, hL1⟩ : ∃ L1, Dec.allL (Dec.textL l) = L1 := ⟨_, rfl⟩
  rw [hL1] at hs9 hl9
  replace hL1 := Lib.hid hL1
  have hl9' : L1.length ≤ 400 := by omega
  clear hown9 hb9 hl9 htl
  go_wp2_with (at_builtin; refine wpList_append_src rfl (.tmp 27) (.tmp 30) 25 rfl w6.heap.size 3 ii (.int .i64 0) 8 Tryd.underlying25 hii hiz0 hiz1 hiz2 rfl _ _ _ rfl hW9.out _ _ rfl hs9.out (ints_oneCell L1) (by simp [maxLen]; omega) (by simp; omega) hc9.size ?_; intro v10 w10 hown10 hgrow10; have hc10 := below_row hc9 hgrow10 hc9.size hW9.out (Nat.le_refl _); have hown10 := Lib.hid (own_of_row (l := L1) hown10 (by simp) (by simp)))
  have hbel10 := hbel6.trans (hc10.mono hbel6.size)
  have hT10 := Lib.hid (Utf8Tabs_below hT'.out hbel10)
  refine (all_any _ bs _ hT10.out (by omega) (bytes_below h2.out hbel10)).mono ?_
  rintro e w11 ⟨v11, rfl, hown11, hb11⟩
  have hc11 := hc10.trans (hb11.mono hc10.size)
  have hW11 := Lib.hid (own_below' hown10.out hb11)
  have hs11 := Lib.hid (ints_src (ints_of_own hown11))
  have hl11 := Dec.all_len bs
  obtain ⟨L2, hL2⟩ : ∃ L2, Dec.allL bs = L2 := ⟨_, rfl⟩
  rw [hL2] at hs11 hl11
  replace hL2 := Lib.hid hL2
  have hl11' : L2.length ≤ 200 := by omega
  clear hown11 hb11 hl11
  go_wp2_with (at_builtin; refine wpList_append_src rfl (.tmp 32) (.tmp 34) 25 rfl w6.heap.size 3 ii (.int .i64 0) 8 Tryd.underlying25 hii hiz0 hiz1 hiz2 rfl _ _ _ rfl hW11.out _ _ rfl hs11.out (ints_oneCell L2) (by simp [maxLen]; omega) (by simp; omega) hc11.size ?_; intro v12 w12 hown12 hgrow12; have hc12 := below_row hc11 hgrow12 hc11.size hW11.out (Nat.le_refl _); have hown12 := Lib.hid (own_of_row (l := L1 ++ L2) hown12 (by simp) (by simp)))
  have hbel12 := hbel6.trans (hc12.mono hbel6.size)
  have hT12 := Lib.hid (Utf8Tabs_below hT'.out hbel12)
  have htl := Dec.textL_len l
  refine (all_any _ _ _ hT12.out (by simp; omega) (bytes_below hall6.out hc12)).mono ?_
  rintro e w13 ⟨v13, rfl, hown13, hb13⟩
  have hbel13 := hbel12.trans (hb13.mono hbel12.size)
  have hi13 := Lib.hid (ints_of_own hown13)
  have hw13 := Lib.hid (ints_of_own (own_below' hown12.out hb13))
  have hfin : sameB (Dec.allL (Dec.textL l ++ bs)) (L1 ++ L2) = true := sameB_eq (by rw [Dec.all_rows, hL1.out, hL2.out])
  replace hfin := Lib.hid hfin
  have hl13 : (Dec.allL (Dec.textL l ++ bs)).length ≤ 100000 := by have := Dec.all_len (Dec.textL l ++ bs); simp at this; omega
  replace hl13 := Lib.hid hl13
  clear hown13 hb13 htl
  go_wp2_with fail
  refine (same_any _ _ _ _ w13 hl13.out hi13.out hw13.out).mono ?_
  rintro e w14 ⟨rfl, n5, rfl⟩
  rw [hfin.out]
  go_wp2_with fail
  go_ret
  exact ⟨rfl, hbel13.trans ((drewN_below _ _).mono hbel13.size)⟩

theorem decRows_walk (v1 : Value) (l : List Int) (v2 : Value) (bs : List UInt8) (w : World) (hT : Lib.Utf8Tabs 0 1 w) (h1 : RInts w v1 l) (h2 : RBytes w v2 bs) :
    Calls Tryd.prog 7 #[v1, v2] w fun e w' => e = .returned (.bool true) ∧ Below w.heap.size w w' := by
  by_cases hl : l.length ≤ 100 ∧ bs.length ≤ 200
  · exact decRows_short v1 v2 l bs w hT hl.1 hl.2 h1 h2
  · obtain ⟨p, cap, rfl⟩ := ints_form h1
    obtain ⟨p2, cap2, rfl⟩ := bytes_form h2
    exact decRows_long p _ cap p2 _ cap2 w hT (by omega)

end Go.Proofs.YthpgoknenhppmaaDoor
