/- Layer 1, the document's answer: All. -/
import Derived.Test.YtcchcgllgodkhaaDoorRA6
import Derived.Test.YtcchcgllgodkhaaDoorM6
import Derived.StillTailTactics
import Derived.Deep.RegionHeld3
import Derived.Deep.DeepCutAuto
import Derived.Deep.LoopGhost
namespace Go.Proofs.YtcchcgllgodkhaaDoor
open Go.RowKit Go.Lib

theorem own_belowR {B : Nat} {v : Value} {l : List Int} {w w1 : World} (h : Own B v l w) (hb : Below w.heap.size w w1) : Own B v l w1 := by
  refine ⟨h.1, ?_⟩
  rcases h.2 with hn | ⟨g, cap, cur, hv, hg, hh, r⟩
  · exact .inl hn
  · exact .inr ⟨g, cap, cur, hv, hg, by rw [hb.block g (Array.getElem?_eq_some_iff.1 hh).1]; exact hh, r⟩

theorem rtwo_below {w w1 : World} {a b : Addr} {u v : Value} (hb : Below w.heap.size w w1) (h : w.cell? a = some u ∧ w.cell? b = some v) : w1.cell? a = some u ∧ w1.cell? b = some v :=
  ⟨by rw [hb.cell (World.block_lt_of_cell? _ _ h.1)]; exact h.1, by rw [hb.cell (World.block_lt_of_cell? _ _ h.2)]; exact h.2⟩

theorem rtwo_set {w : World} {a b p : Addr} {u v x : Value} (h : w.cell? a = some u ∧ w.cell? b = some v) (ha : a.block ≠ p.block) (hb : b.block ≠ p.block) : (w.setCell p x).cell? a = some u ∧ (w.setCell p x).cell? b = some v := by
  rw [World.cell?_setCell_other _ _ _ _ (fun e => ha (by rw [e])), World.cell?_setCell_other _ _ _ _ (fun e => hb (by rw [e]))]
  exact h

theorem rtwo_drew {w : World} {a b : Addr} {u v : Value} (h : w.cell? a = some u ∧ w.cell? b = some v) : w.drew.cell? a = some u ∧ w.drew.cell? b = some v := h

theorem runL_left_len (bs : List UInt8) : (Dec.runL [] bs).1.length ≤ 3 := by
  rcases List.eq_nil_or_concat bs with rfl | ⟨b, c, rfl⟩
  · simp [Dec.runL]
  · rw [List.concat_eq_append, Dec.runL_snoc]
    have h := Dec.feedL_sane (Dec.runL [] b).1 c
    rw [saneL_cases] at h
    rcases Bool.or_eq_true_iff.1 h with h | h
    · have h1 := of_decide_eq_true h; show (Dec.feedL (Dec.runL [] b).1 c).1.length ≤ 3; omega
    · exact (Dec.beg_len h).2

theorem runL_take_len (bs : List UInt8) (k : Nat) : (Dec.runL [] (bs.take k)).2.length ≤ 2 * k := by
  have h := Dec.run_take_len ⟨#[]⟩ bs k
  rw [Dec.run_eq] at h
  exact h

theorem feedL_len (s : List UInt8) (c : UInt8) : (Dec.feedL s c).2.length ≤ 2 := by
  have h := Dec.feed_len ⟨s.toArray⟩ c
  rw [Dec.feed_eq] at h
  exact h

/-- the loop of All: what was told, what is left (in a box), the world -/
def RAllRel (w : World) (SB : Nat) (bs : List UInt8) (k : Nat) (v : Value) (wr : World) : Prop :=
  ∃ S : ByteArray, S.data.toList = (Dec.runL [] (bs.take k)).1 ∧ Own (SB + 1) v (Dec.runL [] (bs.take k)).2 wr ∧ Box wr SB (.string S) ∧ w.heap.size ≤ SB ∧ Below w.heap.size w wr

/-- behind a byte: what it told, and what is left, in a box of its own -/
def RAllMid (w : World) (SB : Nat) (v u l : Value) (R : List Int) (S : ByteArray) (tl : List UInt8) (L : List Int) (wx : World) : Prop :=
  ∃ (T : ByteArray) (UB : Nat), T.data.toList = tl ∧ u = .pointer (some ⟨UB, 0, none⟩) ∧ SB < UB ∧ Box wx UB (.string T) ∧ Box wx SB (.string S) ∧ Own (SB + 1) v R wx ∧ Own (SB + 1) l L wx ∧ w.heap.size ≤ SB ∧ Below w.heap.size w wx

theorem rall_mid1 {w wq wA w2 : World} {SB : Nat} {v tv : Value} {R L : List Int} {S T : ByteArray} {tl : List UInt8} (hT : T.data.toList = tl) (hown : Own (SB + 1) v R wq) (hbox : Box wq SB (.string S)) (hBS : w.heap.size ≤ SB) (hbel : Below w.heap.size w wq)
    (hA : Below wq.heap.size wq wA) (htold : Own wA.heap.size tv L w2) (hb2 : Below wA.heap.size wA w2) :
    RAllMid w SB v (.pointer (some ⟨w2.heap.size, 0, none⟩)) tv R S tl L (w2.alloc (Obj.cells #[Value.string T] 23)) := by
  have h2 := hA.trans (hb2.mono hA.size)
  have hz := hbox.1
  have := hA.size
  have := hb2.size
  have h3 := hbel.trans (h2.mono hbel.size)
  exact ⟨T, _, hT, rfl, by omega, box_new _ _ _, box_alloc (box_below hbox h2) _, own_alloc (own_belowR hown h2) _, own_mono (own_alloc htold _) (by omega), hBS, h3.alloc h3.size _⟩

theorem rall_mid2 {w wq w2 : World} {SB : Nat} {v tv x : Value} {R L : List Int} {S T : ByteArray} {tl : List UInt8} (hT : T.data.toList = tl) (hown : Own (SB + 1) v R wq) (hbox : Box wq SB (.string S)) (hBS : w.heap.size ≤ SB) (hbel : Below w.heap.size w wq)
    (htold : Own (wq.alloc (Obj.cells #[x] 23)).drew.heap.size tv L w2) (hb2 : Below (wq.alloc (Obj.cells #[x] 23)).drew.heap.size (wq.alloc (Obj.cells #[x] 23)).drew w2) :
    RAllMid w SB v (.pointer (some ⟨wq.heap.size, 0, none⟩)) tv R S tl L (w2.setCell ⟨wq.heap.size, 0, none⟩ (Value.string T)) := by
  have hA : Below wq.heap.size wq (wq.alloc (Obj.cells #[x] 23)).drew := ((Below.refl _ _).alloc (Nat.le_refl _) _).drew
  have h2 := hA.trans (hb2.mono hA.size)
  have hz := hbox.1
  have := hA.size
  have h3 := hbel.trans (h2.mono hbel.size)
  have h5 : Box w2 wq.heap.size x := box_below (w := (wq.alloc (Obj.cells #[x] 23)).drew) (box_new wq x 23) hb2
  have hzz : wq.heap.size < (wq.alloc (Obj.cells #[x] 23)).drew.heap.size := by simp
  refine ⟨T, _, hT, rfl, by omega, box_set h5, box_set' (box_below hbox h2) _ _ (by simp; omega), own_set (own_belowR hown h2) _ _ ?_, own_mono (own_set htold _ _ (own_ne htold (by simp))) (by omega), hBS, h3.setCell (by simpa using hbel.size) _⟩
  refine .inr fun e => ?_
  have := (World.ownsRow.lt hown _ e).2
  simp at this

theorem rall_step {w w4 w5 : World} {SB : Nat} {bs : List UInt8} {k : Nat} {c : UInt8} {T : ByteArray} {L : List Int} {v v5 : Value} (hk : k < bs.length) (hc : bs[k] = c)
    (hT : T.data.toList = (Dec.feedL (Dec.runL [] (bs.take k)).1 c).1) (hL : (Dec.feedL (Dec.runL [] (bs.take k)).1 c).2 = L) (hBS : w.heap.size ≤ SB) (h1 : Own (SB + 1) v (Dec.runL [] (bs.take k)).2 w4) (h2 : Box w4 SB (.string T)) (h3 : Below w.heap.size w w4)
    (h5 : w5.ownsRow (SB + 1) 3 1 v5 ((Dec.runL [] (bs.take k)).2.length + (L.map (Value.int .i64)).length) ((Dec.runL [] (bs.take k)).2.map (Value.int .i64) ++ L.map (Value.int .i64))) (hg : w4.grownBy w5 v.ownBlock) : RAllRel w SB bs (k + 1) v5 w5 := by
  have e : Dec.runL [] (bs.take (k + 1)) = (T.data.toList, (Dec.runL [] (bs.take k)).2 ++ L) := by
    rw [List.take_succ_eq_append_getElem hk, hc, Dec.runL_snoc, hL, hT]
  refine ⟨T, by rw [e], ?_, box_grown' h2 hg h1 (by omega), hBS, below_grown h3 hg (Nat.le_trans hBS (by have := h2.1; omega)) h1 (by omega)⟩
  rw [e]
  exact own_of_row h5 (by simp) (by simp)

set_option maxHeartbeats 1600000 in
theorem rall_any (v0 : Value) (bs : List UInt8) (w : World) (hlen : bs.length ≤ 1000) (hr : RBytes w v0 bs) :
    Calls Tryd.prog 15 #[v0] w (IntsRes (Dec.allLL bs) w) := by
  obtain ⟨p, cap, rfl⟩ := bytes_form hr
  have hp := Lib.hid (bytes_at hr)
  replace hr := Lib.hid hr
  obtain ⟨i0, hi, hi0, hi1, hi2⟩ := info_parts info_int
  go_enter Tryd.func15, Tryd.ntmps15
  go_wp2_with fail
  go_loopg [3, 5] bs.length (fun g v i wr => ∃ k : Nat, k ≤ bs.length ∧ g = bs.length - k ∧ i = .int .i64 k ∧ RAllRel w w.heap.size bs k v wr)
  case atStart => exact ⟨0, Nat.zero_le _, rfl, rfl, ⟨#[]⟩, rfl, own_nil _ _, box_new _ _ _, Nat.le_refl _, below_new _ _⟩
  case round =>
    obtain ⟨k, hk, rfl, rfl, S, hSl, hown, hbox, _, hbel⟩ := hrel
    obtain ⟨sl, hsl⟩ : ∃ sl, (Dec.runL [] (bs.take k)).1 = sl := ⟨_, rfl⟩
    have hs3 : sl.length ≤ 3 := by rw [← hsl]; exact runL_left_len _
    rw [hsl] at hSl
    replace hsl := Lib.hid hsl
    have hbox' := Lib.hid hbox
    obtain ⟨z0, q0, r0⟩ := hbox
    replace hown := Lib.hid hown
    have hrl := runL_take_len bs k
    by_cases hlt : k < bs.length
    · obtain ⟨c, hcc⟩ : ∃ c, bs[k] = c := ⟨_, rfl⟩
      obtain ⟨b, off, rfl, hb, hc⟩ := hp.out (by omega)
      have hcell : wr.cell? ⟨b, off + k, none⟩ = some (.int .u8 (c.toNat : Int)) := by
        rw [hbel.cell hb, ← hcc]
        exact hc k hlt
      replace hc := Lib.hid hc
      replace hcc := Lib.hid hcc
      have hfeed := Lib.hid (rfeed_any S sl hSl (by omega) c)
      replace hSl := Lib.hid hSl
      have H2 := Lib.hid (show wr.cell? ⟨w.heap.size, 0, none⟩ = some (.string S) ∧ wr.cell? ⟨b, off + k, none⟩ = some (.int .u8 (c.toNat : Int)) from ⟨q0, hcell⟩)
      replace hbel := Lib.hid hbel
      go_upto_region 6 with (fail)
      generalize hwq : wr = wq at *
      go_cut [6, 7] (fun u l wx => RAllMid w w.heap.size u3 u l (Dec.runL [] (bs.take k)).2 S (Dec.feedL sl c).1 (Dec.feedL sl c).2 wx)
      case first =>
        go_region_held3 (fun w' => w'.cell? ⟨w.heap.size, 0, none⟩ = some (.string S) ∧ w'.cell? ⟨b, off + k, none⟩ = some (.int .u8 (c.toNat : Int)))
          (first | exact H2.out | exact rtwo_drew (rtwo_below (below_new wq _) H2.out) | exact rtwo_below hb2 H2.out | exact rtwo_drew (rtwo_below (below_new w2 _) (rtwo_below hb2 H2.out)) | exact rtwo_below hb2 (rtwo_drew (rtwo_below (below_new wq _) H2.out)) | exact rtwo_set (rtwo_below hb2 (rtwo_drew (rtwo_below (below_new wq _) H2.out))) (by simp; omega) (by simp; omega))
          (first | (go_at_call 8; refine (hfeed.out _).mono ?_; rintro e w2 ⟨T, tv, rfl, hTl, htold, hb2⟩; replace hTl := Lib.hid hTl; try (have h5 := box_below (w := (wq.alloc (Obj.cells #[Value.string { data := #[] }] 23)).drew) (box_new wq (.string { data := #[] }) 23) hb2; obtain ⟨z5, q5, r5⟩ := h5)))
        all_goals go_wp2_with fail
        all_goals go_meet
        · exact rall_mid1 (S := S) hTl.out hown.out hbox'.out (Nat.le_refl _) hbel.out (drewN_below wq 1) htold hb2
        · exact rall_mid2 (S := S) hTl.out hown.out hbox'.out (Nat.le_refl _) hbel.out htold hb2
      case rest =>
        clear hown hbox' H2 hbel z0 q0 r0 hcell hwq hfeed
        obtain ⟨T, UB, hTl, rfl, hUB, hbu, hbs, hown, htold, _, hbel⟩ := hcut
        obtain ⟨L, hL⟩ : ∃ L, (Dec.feedL sl c).2 = L := ⟨_, rfl⟩
        have hfl := feedL_len sl c
        rw [hL] at htold hfl
        replace hL := Lib.hid hL
        replace hTl := Lib.hid hTl
        obtain ⟨tp, tcap, rfl⟩ := ints_form (ints_of_own htold)
        obtain ⟨zu, qu, ru⟩ := hbu
        have hbs3' := Lib.hid (box_set (u := Value.string T) hbs)
        obtain ⟨zs, qs, rs⟩ := hbs
        have hown4 := Lib.hid (own_set hown ⟨w.heap.size, 0, none⟩ (.string T) (own_ne hown (by simp)))
        have hsrc := Lib.hid (own_Src (own_set htold ⟨w.heap.size, 0, none⟩ (.string T) (own_ne htold (by simp))))
        have hbel4 := Lib.hid (hbel.setCell (p := ⟨w.heap.size, 0, none⟩) (Nat.le_refl _) (.string T))
        have hab := append_bounds hrl (show k ≤ 100000 by omega) hfl
        obtain ⟨hab1, hab2⟩ := hab
        replace hab1 := Lib.hid hab1
        replace hab2 := Lib.hid hab2
        have hz3 : w.heap.size + 1 ≤ (wc.setCell ⟨w.heap.size, 0, none⟩ (.string T)).heap.size := by simp; omega
        replace hz3 := Lib.hid hz3
        clear hown htold hbel
        go_wp2_with (at_builtin; refine wpList_append_src rfl _ _ 25 rfl (w.heap.size + 1) 3 i0 (.int .i64 0) 8 Tryd.underlying25 hi hi0 hi1 hi2 rfl _ _ _ rfl hown4.out _ _ rfl hsrc.out (ints_oneCell L) (by rw [List.length_map]; exact hab1.out) (by rw [List.length_map]; exact hab2.out) hz3.out ?_; intro v5 w5 hown5 hgrow5)
        go_roundg (bs.length - (k + 1))
        case measure => omega
        case rel => exact ⟨k + 1, by omega, rfl, by go_num, rall_step hlt hcc.out (by rw [hsl.out]; exact hTl.out) (by rw [hsl.out]; exact hL.out) (Nat.le_refl _) hown4.out hbs3'.out hbel4.out hown5 hgrow5⟩
    · have hkk : k = bs.length := by omega
      have hend := Lib.hid (rend_any S sl hSl (by omega) wr)
      obtain ⟨L, hL⟩ : ∃ L, Dec.endLL sl = L := ⟨_, rfl⟩
      have hfl : L.length ≤ 2 := by rw [← hL]; unfold Dec.endLL; split <;> simp
      have hfin : Hid (Dec.allLL bs = (Dec.runL [] (bs.take k)).2 ++ L) := Lib.hid (by rw [hkk, List.take_length]; unfold Dec.allLL; rw [← hL, ← hsl.out, hkk, List.take_length])
      rw [hL] at hend
      replace hbel := Lib.hid hbel
      clear hkk hL hSl
      go_wp2_with fail
      refine hend.out.mono ?_
      rintro e w2 ⟨tv, rfl, htold, hb2⟩
      have hbel2 := Lib.hid (hbel.out.trans (hb2.mono hbel.out.size))
      have hown2 := Lib.hid (own_belowR hown.out hb2)
      have hsrc := Lib.hid (own_Src htold)
      have hab := append_bounds hrl (show k ≤ 100000 by omega) hfl
      obtain ⟨hab1, hab2⟩ := hab
      replace hab1 := Lib.hid hab1
      replace hab2 := Lib.hid hab2
      have hz2 : w.heap.size + 1 ≤ w2.heap.size := by have := hb2.size; omega
      replace hz2 := Lib.hid hz2
      clear htold hb2 hrl
      go_wp2_with (at_builtin; refine wpList_append_src rfl _ _ 25 rfl (w.heap.size + 1) 3 i0 (.int .i64 0) 8 Tryd.underlying25 hi hi0 hi1 hi2 rfl _ _ _ rfl hown2.out _ _ rfl hsrc.out (ints_oneCell L) (by rw [List.length_map]; exact hab1.out) (by rw [List.length_map]; exact hab2.out) hz2.out ?_; intro v5 w5 hown5 hgrow5)
      go_ret
      refine ⟨_, rfl, ?_, below_row hbel2.out hgrow5 hbel2.out.size hown2.out (by omega)⟩
      rw [hfin.out]
      exact own_mono (own_of_row hown5 (by simp) (by simp)) (by omega)
end Go.Proofs.YtcchcgllgodkhaaDoor
