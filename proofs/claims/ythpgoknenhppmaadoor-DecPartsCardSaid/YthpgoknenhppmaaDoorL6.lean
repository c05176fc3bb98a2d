/- The walks of layer 1's statements, on: DecParts. -/
import Derived.Test.YthpgoknenhppmaaDoorL3
import Derived.StillTailTactics
import Derived.Deep.RegionHeld3
import Derived.Deep.DeepCutAuto
import Derived.Deep.LoopGhost
namespace Go.Proofs.YthpgoknenhppmaaDoor
open Go.RowKit Go.Lib

/-- the loop of DecParts: what was told, what is left (in a box), the world -/
def PartsRel (w : World) (SB : Nat) (bs : List UInt8) (k : Nat) (v : Value) (wr : World) : Prop :=
  Own (SB + 1) v (Dec.run ⟨#[]⟩ (bs.take k)).2 wr ∧ Box wr SB (.string (Dec.run ⟨#[]⟩ (bs.take k)).1) ∧ w.heap.size ≤ SB ∧ Below w.heap.size w wr

theorem parts_start (w w1 : World) (bs : List UInt8) (hb : Below w.heap.size w w1) : PartsRel w w1.heap.size bs 0 (.slice none 0 0) (w1.alloc (.cells #[.string ⟨#[]⟩] 28)) :=
  ⟨own_nil _ _, box_new _ _ _, hb.size, hb.alloc hb.size _⟩

/-- two cells read as they read -/
def Two (w : World) (a b : Addr) (u v : Value) : Prop := w.cell? a = some u ∧ w.cell? b = some v

theorem parts_set {w wr : World} {SB : Nat} {bs : List UInt8} {k : Nat} {v : Value} {o : Obj} (hown : Own (SB + 1) v (Dec.run ⟨#[]⟩ (bs.take k)).2 wr) (hbox : Box wr SB (.string (Dec.run ⟨#[]⟩ (bs.take k)).1)) (hBS : w.heap.size ≤ SB) (hbel : Below w.heap.size w wr) :
    PartsRel w SB bs k v ((wr.setCell ⟨SB, 0, none⟩ (.string (Dec.run ⟨#[]⟩ (bs.take k)).1)).alloc o) :=
  ⟨own_alloc (own_set hown _ _ (own_ne hown (by simp))) o, box_alloc (box_set hbox) o, hBS, (hbel.setCell (by exact hBS) _).alloc (by simpa using hbel.size) _⟩

theorem two_below {w w1 : World} {a b : Addr} {u v : Value} (hb : Below w.heap.size w w1) (h : w.cell? a = some u ∧ w.cell? b = some v) : w1.cell? a = some u ∧ w1.cell? b = some v :=
  ⟨by rw [hb.cell (World.block_lt_of_cell? _ _ h.1)]; exact h.1, by rw [hb.cell (World.block_lt_of_cell? _ _ h.2)]; exact h.2⟩

theorem two_set {w : World} {a b p : Addr} {u v x : Value} (h : w.cell? a = some u ∧ w.cell? b = some v) (ha : a.block ≠ p.block) (hb : b.block ≠ p.block) : (w.setCell p x).cell? a = some u ∧ (w.setCell p x).cell? b = some v := by
  rw [World.cell?_setCell_other _ _ _ _ (fun e => ha (by rw [e])), World.cell?_setCell_other _ _ _ _ (fun e => hb (by rw [e]))]
  exact h

theorem two_drew {w : World} {a b : Addr} {u v : Value} (h : w.cell? a = some u ∧ w.cell? b = some v) : w.drew.cell? a = some u ∧ w.drew.cell? b = some v := h

theorem below_new (w : World) (o : Obj) : Below w.heap.size w (w.alloc o) := (Below.refl _ _).alloc (Nat.le_refl _) _

/-- behind a byte: what it told, and what is left, in a box of its own -/
def PartsMid (w : World) (SB : Nat) (_wq : World) (v u l : Value) (R : List Int) (S T : ByteArray) (L : List Int) (wx : World) : Prop :=
  ∃ UB : Nat, u = .pointer (some ⟨UB, 0, none⟩) ∧ SB < UB ∧ Box wx UB (.string T) ∧ Box wx SB (.string S) ∧ Own (SB + 1) v R wx ∧ Own (SB + 1) l L wx ∧ w.heap.size ≤ SB ∧ Below w.heap.size w wx

theorem parts_mid1 {w w1 wq wA w2 : World} {v tv : Value} {R L : List Int} {S T : ByteArray} (hown : Own (w1.heap.size + 1) v R wq) (hbox : Box wq w1.heap.size (.string S)) (hBS : w.heap.size ≤ w1.heap.size) (hbel : Below w.heap.size w wq)
    (hA : Below wq.heap.size wq wA) (htold : Own wA.heap.size tv L w2) (hb2 : Below wA.heap.size wA w2) :
    PartsMid w w1.heap.size wq v (.pointer (some ⟨w2.heap.size, 0, none⟩)) tv R S T L (w2.alloc (Obj.cells #[Value.string T] 28)) := by
  have h2 := hA.trans (hb2.mono hA.size)
  have hz := hbox.1
  have := hA.size
  have := hb2.size
  have h3 := hbel.trans (h2.mono hbel.size)
  exact ⟨_, rfl, by omega, box_new _ _ _, box_alloc (box_below hbox h2) _, own_alloc (own_below' hown h2) _, own_mono (own_alloc htold _) (by omega), hBS, h3.alloc h3.size _⟩

theorem parts_mid2 {w w1 wq w2 : World} {v tv x : Value} {R L : List Int} {S T : ByteArray} (hown : Own (w1.heap.size + 1) v R wq) (hbox : Box wq w1.heap.size (.string S)) (hBS : w.heap.size ≤ w1.heap.size) (hbel : Below w.heap.size w wq)
    (htold : Own (wq.alloc (Obj.cells #[x] 28)).drew.heap.size tv L w2) (hb2 : Below (wq.alloc (Obj.cells #[x] 28)).drew.heap.size (wq.alloc (Obj.cells #[x] 28)).drew w2) :
    PartsMid w w1.heap.size wq v (.pointer (some ⟨wq.heap.size, 0, none⟩)) tv R S T L (w2.setCell ⟨wq.heap.size, 0, none⟩ (Value.string T)) := by
  have hA : Below wq.heap.size wq (wq.alloc (Obj.cells #[x] 28)).drew := ((Below.refl _ _).alloc (Nat.le_refl _) _).drew
  have h2 := hA.trans (hb2.mono hA.size)
  have hz := hbox.1
  have := hA.size
  have h3 := hbel.trans (h2.mono hbel.size)
  have h5 : Box w2 wq.heap.size x := box_below (w := (wq.alloc (Obj.cells #[x] 28)).drew) (box_new wq x 28) hb2
  have hzz : wq.heap.size < (wq.alloc (Obj.cells #[x] 28)).drew.heap.size := by simp
  refine ⟨_, rfl, by omega, box_set h5, box_set' (box_below hbox h2) _ _ (by simp; omega), own_set (own_below' hown h2) _ _ ?_, own_mono (own_set htold _ _ (own_ne htold (by simp))) (by omega), hBS, h3.setCell (by simpa using hbel.size) _⟩
  refine .inr fun e => ?_
  have := (World.ownsRow.lt hown _ e).2
  simp at this

theorem parts_step {w w1 w4 w5 : World} {bs : List UInt8} {k : Nat} {c : UInt8} {S T : ByteArray} {L : List Int} {v v5 : Value} (hk : k < bs.length) (hc : bs[k] = c) (hS : (Dec.run ⟨#[]⟩ (bs.take k)).1 = S)
    (hT : (Dec.feed S c).1 = T) (hL : (Dec.feed S c).2 = L) (hBS : w.heap.size ≤ w1.heap.size) (h1 : Own (w1.heap.size + 1) v (Dec.run ⟨#[]⟩ (bs.take k)).2 w4) (h2 : Box w4 w1.heap.size (.string T)) (h3 : Below w.heap.size w w4)
    (h5 : w5.ownsRow (w1.heap.size + 1) 3 1 v5 ((Dec.run ⟨#[]⟩ (bs.take k)).2.length + (L.map (Value.int .i64)).length) ((Dec.run ⟨#[]⟩ (bs.take k)).2.map (Value.int .i64) ++ L.map (Value.int .i64))) (hg : w4.grownBy w5 v.ownBlock) : PartsRel w w1.heap.size bs (k + 1) v5 w5 := by
  have e : Dec.run ⟨#[]⟩ (bs.take (k + 1)) = (T, (Dec.run ⟨#[]⟩ (bs.take k)).2 ++ L) := by
    rw [List.take_succ_eq_append_getElem hk, hc, Dec.run_snoc, hS, hT, hL]
  unfold PartsRel
  rw [e]
  exact ⟨own_of_row h5 (by simp) (by simp), box_grown' h2 hg h1 (by omega), hBS, below_grown h3 hg h3.size h1 (by omega)⟩

theorem Dec.feed_saneB (S : ByteArray) (c : UInt8) : Dec.saneB (Dec.feed S c).1 = true := by
  obtain ⟨l, rfl⟩ : ∃ l : List UInt8, S = ⟨l.toArray⟩ := ⟨S.data.toList, Dec.eta S⟩
  rw [Dec.feed_eq, Dec.saneB_eq]
  exact Dec.feedL_sane _ _

set_option maxHeartbeats 1600000 in
theorem decParts_short (p : Option Addr) (cap : Nat) (bs : List UInt8) (kk : Int) (w : World) (hT : Lib.Utf8Tabs 0 1 w) (hlen : bs.length ≤ 300) (hr : RBytes w (.slice p bs.length cap) bs) :
    Calls Tryd.prog 5 #[.slice p bs.length cap, .int .i64 kk] w fun e w' => e = .returned (.bool true) ∧ Below w.heap.size w w' := by
  have hp := Lib.hid (bytes_at hr)
  replace hr := Lib.hid hr
  obtain ⟨i0, hi, hi0, hi1, hi2⟩ := info_parts info_int
  replace hT := Lib.hid hT
  have hlen' : (bs.length : Int) ≤ 300 := by omega
  go_enter Tryd.func5, Tryd.ntmps5
  go_wp2_with fail
  refine (awake_any w hT.out).mono ?_
  rintro e w1 ⟨rfl, hb1⟩
  go_wp2_with fail
  obtain ⟨cut, hcut⟩ : ∃ cut, (bits BinOp.and IntKind.i64 kk 65535).tmod (↑bs.length + 1) = cut := ⟨_, rfl⟩
  rw [hcut]
  clear hcut
  go_loopg [7, 9] bs.length (fun g v i wr => ∃ k : Nat, k ≤ bs.length ∧ g = bs.length - k ∧ i = .int .i64 k ∧ PartsRel w w1.heap.size bs k v wr)
  case atStart => exact ⟨0, Nat.zero_le _, rfl, rfl, parts_start w w1 bs hb1⟩
  case round =>
    obtain ⟨k, hk, rfl, rfl, hrl⟩ := hrel
    by_cases hlt : k < bs.length
    · obtain ⟨c, hcc⟩ : ∃ c, bs[k] = c := ⟨_, rfl⟩
      obtain ⟨b, off, rfl, hb, hc⟩ := hp.out (by omega)
      replace hc := Lib.hid hc
      replace hcc := Lib.hid hcc
      replace hrl := Lib.hid hrl
      clear hp hr
      go_upto_if 33 with (fail)
      go_cut [] (fun wx => PartsRel w w1.heap.size bs k u7 wx)
      case first =>
        by_cases hic : (k : Int) = cut
        · have f1 : ((k : Int) == cut) = true := beq_iff_eq.2 hic
          obtain ⟨hown, hbox, hBS, hbel⟩ := hrl.out
          obtain ⟨S, hS⟩ : ∃ S, (Dec.run ⟨#[]⟩ (bs.take k)).1 = S := ⟨_, rfl⟩
          rw [hS] at hbox
          replace hS := Lib.hid hS
          have hbox' := Lib.hid hbox
          obtain ⟨z0, q0, r0⟩ := hbox
          replace hown := Lib.hid hown
          clear hic
          go_wp2_with fail
          go_meet
          have h := parts_set (o := Obj.cells #[Value.string (Dec.run ⟨#[]⟩ (bs.take k)).1] 28) hown.out (by rw [hS.out]; exact hbox'.out) hBS hbel
          rw [hS.out] at h
          exact h
        · have f1 : ((k : Int) == cut) = false := beq_eq_false_iff_ne.2 hic
          clear hic
          go_wp2_with fail
          go_meet
          exact hrl.out
      case rest =>
        clear hrl
        obtain ⟨hown, hbox, hBS, hbel⟩ := hcut
        have hcell : wc.cell? ⟨b, off + k, none⟩ = some (.int .u8 (c.toNat : Int)) := by
          rw [hbel.cell hb, ← hcc.out]
          exact hc.out k hlt
        obtain ⟨S, hS⟩ : ∃ S, (Dec.run ⟨#[]⟩ (bs.take k)).1 = S := ⟨_, rfl⟩
        rw [hS] at hbox
        replace hS := Lib.hid hS
        have hbox' := Lib.hid hbox
        obtain ⟨z0, q0, r0⟩ := hbox
        replace hown := Lib.hid hown
        have hTq := Lib.hid (Utf8Tabs_below hT.out hbel)
        have H2 := Lib.hid (show wc.cell? ⟨w1.heap.size, 0, none⟩ = some (.string S) ∧ wc.cell? ⟨b, off + k, none⟩ = some (.int .u8 (c.toNat : Int)) from ⟨q0, hcell⟩)
        replace hbel := Lib.hid hbel
        go_upto_region 13 with (fail)
        generalize hwq : wc = wq at *
        go_cut [11, 12] (fun u l wx => PartsMid w w1.heap.size wq u7 u l (Dec.run ⟨#[]⟩ (bs.take k)).2 S (Dec.feed S c).1 (Dec.feed S c).2 wx)
        case first =>
          go_region_held3 (fun w' => w'.cell? ⟨w1.heap.size, 0, none⟩ = some (.string S) ∧ w'.cell? ⟨b, off + k, none⟩ = some (.int .u8 (c.toNat : Int)))
            (first | exact H2.out | exact two_drew (two_below (below_new wq _) H2.out) | exact two_below hb2 H2.out | exact two_drew (two_below (below_new w2 _) (two_below hb2 H2.out)) | exact two_below hb2 (two_drew (two_below (below_new wq _) H2.out)) | exact two_set (two_below hb2 (two_drew (two_below (below_new wq _) H2.out))) (by simp; omega) (by simp; omega))
            (first | (go_at_call 14; refine (feed_any S c _ (by first | exact hTq.out | exact tabs_alloc hTq.out _)).mono ?_; rintro e w2 ⟨tv, rfl, htold, hb2⟩; try (have h5 := box_below (w := (wq.alloc (Obj.cells #[Value.string { data := #[] }] 28)).drew) (box_new wq (.string { data := #[] }) 28) hb2; obtain ⟨z5, q5, r5⟩ := h5)))
          all_goals go_wp2_with fail
          all_goals go_meet
          · exact parts_mid1 (S := S) hown.out hbox'.out hBS hbel.out (drewN_below wq 1) htold hb2
          · exact parts_mid2 (S := S) hown.out hbox'.out hBS hbel.out htold hb2
        case rest =>
          clear hown hbox' hTq H2 hbel z0 q0 r0 hcell hwq
          obtain ⟨UB, rfl, hUB, hbu, hbs, hown, htold, _, hbel⟩ := hcut
          obtain ⟨T, hT2⟩ : ∃ T, (Dec.feed S c).1 = T := ⟨_, rfl⟩
          obtain ⟨L, hL⟩ : ∃ L, (Dec.feed S c).2 = L := ⟨_, rfl⟩
          have hsn := Dec.feed_saneB S c
          have hfl := Dec.feed_len S c
          rw [hT2] at hbu hsn
          rw [hL] at htold hfl
          replace hT2 := Lib.hid hT2
          replace hL := Lib.hid hL
          have hTs := saneB_size hsn
          have g1 : decide ((3 : Int) < (T.size : Int)) = false := by simp; omega
          replace hsn := Lib.hid hsn
          obtain ⟨tp, tcap, rfl⟩ := ints_form (ints_of_own htold)
          have g2 : decide ((2 : Int) < (L.length : Int)) = false := by simp; omega
          have hbu' := Lib.hid hbu
          obtain ⟨zu, qu, ru⟩ := hbu
          have hTc := Lib.hid (Utf8Tabs_below hT.out hbel)
          replace hbs := Lib.hid hbs
          replace hown := Lib.hid hown
          replace htold := Lib.hid htold
          replace hbel := Lib.hid hbel
          go_wp2_with fail
          refine (sane_any T wc hTc.out).mono ?_
          rintro e w3 ⟨rfl, hb3⟩
          rw [hsn.out]
          have hbel3 := hbel.out.trans (hb3.mono hbel.out.size)
          clear zu qu ru
          obtain ⟨zu, qu, ru⟩ := box_below hbu'.out hb3
          have hbs3 := box_below hbs.out hb3
          have hbs3' := Lib.hid (box_set (u := Value.string T) hbs3)
          obtain ⟨zs, qs, rs⟩ := hbs3
          have hown3 := own_below' hown.out hb3
          have hown4 := Lib.hid (own_set hown3 ⟨w1.heap.size, 0, none⟩ (.string T) (own_ne hown3 (by simp)))
          have htold3 := own_below' htold.out hb3
          have hsrc := Lib.hid (ints_src (ints_of_own (own_set htold3 ⟨w1.heap.size, 0, none⟩ (.string T) (own_ne htold3 (by simp)))))
          have hbel4 := Lib.hid (hbel3.setCell (p := ⟨w1.heap.size, 0, none⟩) (by exact hBS) (.string T))
          have hrl := Dec.run_take_len ⟨#[]⟩ bs k
          have hab := append_bounds hrl (show k ≤ 100000 by omega) hfl
          obtain ⟨hab1, hab2⟩ := hab
          replace hab1 := Lib.hid hab1
          replace hab2 := Lib.hid hab2
          have hz3 : w1.heap.size + 1 ≤ (w3.setCell ⟨w1.heap.size, 0, none⟩ (.string T)).heap.size := by simp; omega
          replace hz3 := Lib.hid hz3
          clear hb3 hown3 htold3 hbel3
          go_wp2_with (at_builtin; refine wpList_append_src rfl _ _ 25 rfl (w1.heap.size + 1) 3 i0 (.int .i64 0) 8 Tryd.underlying25 hi hi0 hi1 hi2 rfl _ _ _ rfl hown4.out _ _ rfl hsrc.out (ints_oneCell L) (by rw [List.length_map]; exact hab1.out) (by rw [List.length_map]; exact hab2.out) hz3.out ?_; intro v5 w5 hown5 hgrow5)
          go_roundg (bs.length - (k + 1))
          case measure => omega
          case rel => exact ⟨k + 1, by omega, rfl, by go_num, parts_step hlt hcc.out hS.out hT2.out hL.out hBS hown4.out hbs3'.out hbel4.out hown5 hgrow5⟩
    · obtain ⟨hown, hbox, hBS, hbel⟩ := hrl
      obtain ⟨S, hS⟩ : ∃ S, (Dec.run ⟨#[]⟩ (bs.take k)).1 = S := ⟨_, rfl⟩
      rw [hS] at hbox
      have hkk : k = bs.length := by omega
      have hfin := allL_at hkk hS
      replace hS := Lib.hid hS
      have hbox' := Lib.hid hbox
      obtain ⟨z0, q0, r0⟩ := hbox
      have hTq := Lib.hid (Utf8Tabs_below hT.out hbel)
      replace hown := Lib.hid hown
      replace hbel := Lib.hid hbel
      have hrl := Dec.run_take_len ⟨#[]⟩ bs k
      replace hfin := Lib.hid hfin
      clear hkk
      go_wp2_with fail
      refine (end_any S wr hTq.out).mono ?_
      rintro e w2 ⟨tv, rfl, htold, hb2⟩
      obtain ⟨L, hL⟩ : ∃ L : List Int, (if Dec.begB S then [65533] else []) = L := ⟨_, rfl⟩
      have hfl : L.length ≤ 2 := by rw [← hL]; split <;> simp
      rw [hL] at htold
      have hfin2 := Lib.hid (hfin.out.trans (by rw [show Dec.endL S = L from hL]))
      clear hL hfin
      have hbel2 := Lib.hid (hbel.out.trans (hb2.mono hbel.out.size))
      have hown2 := Lib.hid (own_below' hown.out hb2)
      have hsrc := Lib.hid (ints_src (ints_of_own htold))
      have hab := append_bounds hrl (show k ≤ 100000 by omega) hfl
      obtain ⟨hab1, hab2⟩ := hab
      replace hab1 := Lib.hid hab1
      replace hab2 := Lib.hid hab2
      have hz2 : w1.heap.size + 1 ≤ w2.heap.size := by have := hb2.size; omega
      replace hz2 := Lib.hid hz2
      clear htold hb2 hrl
      go_wp2_with (at_builtin; refine wpList_append_src rfl _ _ 25 rfl (w1.heap.size + 1) 3 i0 (.int .i64 0) 8 Tryd.underlying25 hi hi0 hi1 hi2 rfl _ _ _ rfl hown2.out _ _ rfl hsrc.out (ints_oneCell L) (by rw [List.length_map]; exact hab1.out) (by rw [List.length_map]; exact hab2.out) hz2.out ?_; intro v5 w5 hown5 hgrow5)
      have hbel5 := below_row hbel2.out hgrow5 hbel2.out.size hown2.out (by omega)
      have hown5' := own_of_row (l := (Dec.run ⟨#[]⟩ (bs.take k)).2 ++ L) hown5 (by simp) (by simp)
      have hT5 := Utf8Tabs_below hT.out hbel5
      have hr5 := bytes_below hr.out hbel5
      refine (all_any _ bs w5 hT5 (by omega) hr5).mono ?_
      rintro e w6 ⟨v6, rfl, hown6, hb6⟩
      have hi5 := Lib.hid (ints_of_own (own_below' hown5' hb6))
      have hi6 := Lib.hid (ints_of_own hown6)
      have hbel6 := Lib.hid (hbel5.trans (hb6.mono hbel5.size))
      have hl6 : ((Dec.run ⟨#[]⟩ (bs.take k)).2 ++ L).length ≤ 100000 := by rw [← hfin2.out]; have := Dec.all_len bs; omega
      replace hl6 := Lib.hid hl6
      have hfin3 := Lib.hid (sameB_eq hfin2.out.symm)
      clear hown5 hgrow5 hbel5 hown5' hT5 hr5 hown6 hb6
      go_wp2_with fail
      refine (same_any _ _ _ _ w6 hl6.out hi5.out hi6.out).mono ?_
      rintro e w7 ⟨rfl, n7, rfl⟩
      rw [hfin3.out]
      go_wp2_with fail
      go_ret
      exact ⟨rfl, hbel6.out.trans ((drewN_below _ _).mono hbel6.out.size)⟩

set_option maxHeartbeats 800000 in
theorem decParts_long (p : Option Addr) (n cap : Nat) (kk : Int) (w : World) (hT : Lib.Utf8Tabs 0 1 w) (hlen : 300 < n) :
    Calls Tryd.prog 5 #[.slice p n cap, .int .i64 kk] w fun e w' => e = .returned (.bool true) ∧ Below w.heap.size w w' := by
  have hT' := Lib.hid hT
  have hlen' : (300 : Int) < (n : Int) := by omega
  clear hT
  go_enter Tryd.func5, Tryd.ntmps5
  go_wp2_with fail
  refine (awake_any w hT'.out).mono ?_
  rintro e w1 ⟨rfl, hb1⟩
  go_wp2_with fail
  go_ret
  exact ⟨rfl, hb1⟩

theorem decParts_walk (v : Value) (bs : List UInt8) (kk : Int) (w : World) (hT : Lib.Utf8Tabs 0 1 w) (hr : RBytes w v bs) (_ : -9223372036854775808 ≤ kk ∧ kk ≤ 9223372036854775807) :
    Calls Tryd.prog 5 #[v, .int .i64 kk] w fun e w' => e = .returned (.bool true) ∧ Below w.heap.size w w' := by
  obtain ⟨p, cap, rfl⟩ := bytes_form hr
  by_cases hl : bs.length ≤ 300
  · exact decParts_short p cap bs kk w hT hl hr
  · exact decParts_long p _ cap kk w hT (by omega)
end Go.Proofs.YthpgoknenhppmaaDoor
