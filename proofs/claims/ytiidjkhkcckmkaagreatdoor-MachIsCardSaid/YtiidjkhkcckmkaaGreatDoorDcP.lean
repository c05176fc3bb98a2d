/- Texts that stand together. -/
import Derived.Test.YtiidjkhkcckmkaaGreatDoorRows
import Derived.Test.YtiidjkhkcckmkaaGreatDoorShelf
import Derived.Lib.Builder
import Derived.Lib.RuneBytes
import Derived.Laws.Externs
import Derived.WalkKit
import Derived.WalkSpells
import Derived.WalkLawsBesides
import Derived.Test.YtiidjkhkcckmkaaGreatDoorKP
import Derived.Test.YtiidjkhkcckmkaaGreatDoorMatP
import Derived.Test.YtiidjkhkcckmkaaGreatDoorBasP
import Derived.Deep.QuietTactic
import Derived.BigQuiet
import Derived.Lib.Hide
import Derived.Test.YtiidjkhkcckmkaaGreatDoorG1
/- strings.Builder in this translation: copyCheck and WriteRune at a builder of the call's own (the shelf's contracts of these two are not laid at this form of copyCheck). -/
namespace Go.Proofs.YtiidjkhkcckmkaaGreatDoor
set_option linter.unusedSimpArgs false
set_option linter.unusedVariables false
open Go.RowKit Go.Lib
theorem bld_size : (Tryz.prog.info? 149).map (·.size) = some 2 := by kernel_rfl
theorem bld_lies : liesAt Tryz.prog Tryz.prog.depth 149 (2 / Tryz.prog.cellsOf 149) 0 149 1 = true := by kernel_rfl
set_option maxHeartbeats 1000000 in
set_option maxRecDepth 100000 in
theorem copyCheck_used (b : Nat) (w : World) (h0 : w.cell? ⟨b, 0, none⟩ = some (.pointer (some ⟨b, 0, none⟩))) :
    Calls Tryz.prog 155 #[.pointer (some ⟨b, 0, none⟩)] w fun e w' => e = .returned (.tuple #[]) ∧ w = w' := by
  obtain ⟨j, hj, _⟩ := Option.map_eq_some_iff.1 bld_size
  go_enter Tryz.func155, Tryz.ntmps155
  go_wp2
  rw [Lib.run_neq_ptr_same w _ Tryz.underlying147 hj]
  go_wp2
  go_end0
  exact ⟨rfl, rfl⟩
set_option maxHeartbeats 1000000 in
set_option maxRecDepth 100000 in
theorem copyCheck_fresh (b : Nat) (w : World) (h0 : w.cell? ⟨b, 0, none⟩ = some (.pointer none)) (hsh : w.shape? b = some (149, 2)) (hfz : w.frozen? ⟨b, 0, none⟩ = false) :
    Calls Tryz.prog 155 #[.pointer (some ⟨b, 0, none⟩)] w fun e w' => e = .returned (.tuple #[]) ∧ w.setCell ⟨b, 0, none⟩ (.pointer (some ⟨b, 0, none⟩)) = w' := by
  obtain ⟨j, hj, hjs⟩ := Option.map_eq_some_iff.1 bld_size
  go_enter Tryz.func155, Tryz.ntmps155
  go_wp2
  rw [Lib.run_to_unsafe w ⟨b, 0, none⟩ Tryz.underlying147 Tryz.underlying201 hj (by rw [hjs]; decide) hsh (Nat.zero_lt_succ 1)]
  simp only [Result.andThen]
  rw [Oper.upon_value]
  go_wp2
  rw [run_callFunc_extern Tryz.func179 (by kernel_rfl) (by kernel_rfl) (by kernel_rfl) (e := Extern.AbiNoEscape.same) (by kernel_rfl)]
  rw [Lib.run_noEscape]
  simp only [Result.andThen]
  rw [Oper.upon_value]
  go_wp2
  rw [Lib.run_from_unsafe w ⟨b, 0, none⟩ Tryz.underlying201 Tryz.underlying147 hj hsh bld_lies]
  simp only [Result.andThen]
  rw [Oper.upon_value]
  go_wp2
  go_end0
  exact ⟨rfl, rfl⟩
theorem copyCheck_any (B b : Nat) (bs : List Value) (w : World) (h : Lib.IsBuilder 149 5 B b bs w) :
    Calls Tryz.prog 155 #[.pointer (some ⟨b, 0, none⟩)] w fun e w' => e = .returned (.tuple #[]) ∧ (Lib.BuilderAt 149 5 B b (.pointer (some ⟨b, 0, none⟩)) bs w' ∧ Below B w w') := by
  rcases h with h | h
  · refine (copyCheck_fresh b w h.cell0 h.shape h.frozen0).mono ?_
    rintro e w' ⟨rfl, rfl⟩
    exact ⟨rfl, h.used _, (Below.refl B w).setCell (p := ⟨b, 0, none⟩) h.1 _⟩
  · refine (copyCheck_used b w h.cell0).mono ?_
    rintro e w' ⟨rfl, rfl⟩
    exact ⟨rfl, h, Below.refl B _⟩
set_option maxHeartbeats 4000000 in
set_option maxRecDepth 100000 in
theorem writeRune_any (B b : Nat) (bs : List Value) (r : Int) (hr0 : -2147483648 ≤ r) (hr1 : r ≤ 2147483647) (w : World) (h : Lib.IsBuilder 149 5 B b bs w) (hlen : bs.length + 4 ≤ 140737488355328) (hBw : B ≤ w.heap.size) :
    Calls Tryz.prog 125 #[.pointer (some ⟨b, 0, none⟩), .int .i32 r] w fun e w' => e = .returned (.tuple #[.int .i64 (Lib.runeCells r).length, .nilIface]) ∧ (Lib.BuilderAt 149 5 B b (.pointer (some ⟨b, 0, none⟩)) (bs ++ Lib.runeCells r) w' ∧ Below B w w') := by
  have hk4 := Lib.runeCells_le r
  go_enter Tryz.func125, Tryz.ntmps125
  go_wp2_with (go_at_call 155; refine (copyCheck_any B b bs _ h).mono ?_)
  rintro e w1 ⟨rfl, h1, hb1⟩
  obtain ⟨hB, v, hbk, hown, hne⟩ := h1
  obtain ⟨ao, cap, rfl⟩ : ∃ ao cap, v = .slice ao bs.length cap := by
    rcases hown.2 with ⟨hv, h0⟩ | ⟨g, cap, cur, hv, _⟩
    · exact ⟨none, 0, by rw [hv, h0]⟩
    · exact ⟨_, _, hv⟩
  have c0 : w1.cell? ⟨b, 0, none⟩ = some (.pointer (some ⟨b, 0, none⟩)) := by rw [Lib.cell_of_heap hbk]; rfl
  have c1 : w1.cell? ⟨b, 1, none⟩ = some (.slice ao bs.length cap) := by rw [Lib.cell_of_heap hbk]; rfl
  go_wp2_with (go_at_call 156; refine (Tryz.utf8_AppendRune_plain B _ bs.length bs r hr0 hr1 _ hown hlen (by have := hb1.size; omega)).mono ?_)
  rintro e w2 ⟨v', rfl, hown', o, hgrow⟩
  have hlt : b < w1.heap.size := by
    rcases Nat.lt_or_ge b w1.heap.size with h' | h'
    · exact h'
    · simp [Array.getElem?_eq_none h'] at hbk
  have hb2 : w2.heap[b]? = some (.cells #[.pointer (some ⟨b, 0, none⟩), .slice ao bs.length cap] 149 (0, 0)) := by
    rw [hgrow.block b (by simp; omega) (fun e => hne e.symm), Lib.alloc_old w1 _ b hlt]
    exact hbk
  have d0 : w2.cell? ⟨b, 0, none⟩ = some (.pointer (some ⟨b, 0, none⟩)) := by rw [Lib.cell_of_heap hb2]; rfl
  have d1 : w2.cell? ⟨b, 1, none⟩ = some (.slice ao bs.length cap) := by rw [Lib.cell_of_heap hb2]; rfl
  have f1 : w2.frozen? ⟨b, 1, none⟩ = false := Lib.frozen_of_heap hb2 1
  obtain ⟨g, cap', rfl⟩ : ∃ g cap', v' = .slice (some ⟨g, 0, none⟩) (bs.length + (Lib.runeCells r).length) cap' := by
    rcases hown'.2 with ⟨_, h0⟩ | ⟨g, cap', cur, hv, _⟩
    · omega
    · exact ⟨g, cap', hv⟩
  go_wp2
  go_ret2
  refine ⟨?_, ?_, ?_⟩
  · have e : ((bs.length : Int) + ((Lib.runeCells r).length : Int) - (bs.length : Int)) = ((Lib.runeCells r).length : Int) := by omega
    simp [e]
  · exact Lib.BuilderAt.put (T := 149) (e := 5) hB hb2 (bs' := bs ++ Lib.runeCells r) (by simpa using hown') (by decide)
  · exact ((hb1.alloc (by have := hb1.size; omega) _).grown hgrow (by have := hb1.size; simp; omega) (fun k hk => (hown.lt k hk).1)).setCell (p := ⟨b, 1, none⟩) hB _
end Go.Proofs.YtiidjkhkcckmkaaGreatDoor

/- The contract of layer 1's Text, for layers above (slices of whole numbers as G2 has them). -/
namespace Go.Proofs.YtiidjkhkcckmkaaGreatDoor.Tx
set_option linter.unusedSimpArgs false
set_option linter.unusedVariables false
open Go.RowKit Go.Lib
set_option maxHeartbeats 400000 in
theorem written_any (r : Int) (w : World) :
    Calls Tryz.prog 126 #[.int .i64 r] w fun e w' => e = .returned (.int .i32 (Dec.fix r)) ∧ w = w' := by
  cases hg : Dec.goodB r with
  | true =>
    have hr : 0 ≤ r ∧ r ≤ 1114111 := by unfold Dec.goodB at hg; grind
    obtain ⟨h0, h1⟩ := hr
    have H := Lib.hid hg
    clear hg
    go_enter Tryz.func126, Tryz.ntmps126
    go_wp2_with (go_at_call 27; refine (good_any _ _).mono ?_; rintro e w1 ⟨rfl, rfl⟩; rw [H.out])
    go_ret
    exact ⟨by unfold Dec.fix; rw [H.out]; rfl, rfl⟩
  | false =>
    have H := Lib.hid hg
    clear hg
    go_enter Tryz.func126, Tryz.ntmps126
    go_wp2_with (go_at_call 27; refine (good_any _ _).mono ?_; rintro e w1 ⟨rfl, rfl⟩; rw [H.out])
    go_ret
    exact ⟨by unfold Dec.fix; rw [H.out]; rfl, rfl⟩
def TextRel (w : World) (l : List Int) (k : Nat) (wr : World) : Prop :=
  Lib.IsBuilder 149 5 w.heap.size w.heap.size (Lib.byteCells (Dec.textL (l.take k))) wr ∧ Below w.heap.size w wr
theorem textRel_start (w : World) (l : List Int) : TextRel w l 0 (w.alloc (.cells #[.pointer none, .slice none 0 0] 149)) := by
  refine ⟨.inl ⟨Nat.le_refl _, .slice none 0 0, heap_alloc_new w _, World.ownsRow_nil _ _ _ _, by simp [Value.ownBlock]⟩, (Below.refl _ _).alloc (Nat.le_refl _) _⟩
theorem textRel_step {w w3 : World} {l : List Int} {k : Nat} {r : Int} (hk : k < l.length) (hr : l[k] = r)
    (h1 : Lib.BuilderAt 149 5 w.heap.size w.heap.size (.pointer (some ⟨w.heap.size, 0, none⟩)) (Lib.byteCells (Dec.textL (l.take k)) ++ Lib.runeCells (Dec.fix r)) w3) (h3 : Below w.heap.size w w3) : TextRel w l (k + 1) w3 := by
  refine ⟨.inr ?_, h3⟩
  rw [List.take_succ_eq_append_getElem hk, hr, Dec.textL_snoc, Lib.byteCells_append, Lib.byteCells_encodeRune]
  exact h1
set_option maxHeartbeats 800000 in
theorem text_some (b off cap : Nat) (l : List Int) (w : World) (hlen : l.length ≤ 100000) (hb : b < w.heap.size) (hc : ∀ i (h : i < l.length), w.cell? ⟨b, off + i, none⟩ = some (.int .i64 l[i])) :
    Calls Tryz.prog 88 #[.slice (some ⟨b, off, none⟩) l.length cap] w fun e w' => e = .returned (.string ⟨(Dec.textL l).toArray⟩) ∧ Below w.heap.size w w' := by
  have hc' := Lib.hid hc
  clear hc
  go_enter Tryz.func88, Tryz.ntmps88
  go_wp2_with fail
  go_loopw [8] (fun i wr => ∃ k : Nat, k ≤ l.length ∧ i = .int .i64 k ∧ TextRel w l k wr) (fun i _ => l.length - (RowKit.intOf i).toNat)
  case atStart => exact ⟨0, Nat.zero_le _, rfl, textRel_start w l⟩
  case round =>
    obtain ⟨k, hk, rfl, hr⟩ := hrel
    obtain ⟨hbl, hbel⟩ := hr
    by_cases hlt : k < l.length
    · obtain ⟨r, hrr⟩ : ∃ r, l[k] = r := ⟨_, rfl⟩
      have hcell : wr.cell? ⟨b, off + k, none⟩ = some (.int .i64 r) := by
        rw [hbel.cell hb, ← hrr]
        exact hc'.out k hlt
      have hrr := Lib.hid hrr
      have hbl := Lib.hid hbl
      have htl := Dec.textL_len (l.take k)
      have htk := List.length_take_le k l
      obtain ⟨hf0, hf1⟩ := Dec.fix_range r
      go_wp2_with fail
      refine (written_any r wr).mono ?_
      rintro e w1 ⟨rfl, rfl⟩
      go_wp2_with fail
      refine (writeRune_any w.heap.size w.heap.size _ (Dec.fix r) hf0 hf1 wr hbl.out (by rw [Lib.byteCells_length]; omega) hbel.size).mono ?_
      rintro e w2 ⟨rfl, hb2, hbe2⟩
      have hb2 := Lib.hid hb2
      have hbel2 := hbel.trans hbe2
      clear htl htk hf0 hf1 hcell hbe2
      go_wp2_with fail
      go_roundw
      case rel => exact ⟨k + 1, by omega, by go_num, textRel_step hlt hrr.out hb2.out hbel2⟩
      case measure => simp [RowKit.intOf]; omega
    · have hbl := Lib.hid hbl
      have hkk : k = l.length := by omega
      have hkk := Lib.hid hkk
      go_wp2_with fail
      refine (Tryz.Builder_String_any w.heap.size w.heap.size _ wr hbl.out hbel.size).mono ?_
      rintro e w2 ⟨rfl, hbe2⟩
      have hbel2 := hbel.trans hbe2
      clear hbe2
      go_wp2_with fail
      go_ret
      exact ⟨rfl, hbel2⟩
theorem text_none (ap : Option Addr) (ac : Nat) (w : World) :
    Calls Tryz.prog 88 #[.slice ap 0 ac] w fun e w' => e = .returned (.string ⟨(Dec.textL []).toArray⟩) ∧ Below w.heap.size w w' := by
  have hr := textRel_start w []
  obtain ⟨hbl, hbel⟩ := hr
  have hbl := Lib.hid hbl
  go_enter Tryz.func88, Tryz.ntmps88
  go_wp2_with fail
  refine wp_loop_rounds 1 ?_
  rw [rounds_succ]
  go_wp2_with fail
  refine (Tryz.Builder_String_any w.heap.size w.heap.size _ _ hbl.out hbel.size).mono ?_
  rintro e w2 ⟨rfl, hbe2⟩
  have hbel2 := hbel.trans hbe2
  clear hbe2
  go_wp2_with fail
  go_ret
  exact ⟨rfl, hbel2⟩
theorem text_any (v : Value) (l : List Int) (w : World) (hlen : l.length ≤ 100000) (hb : RI w v l) :
    Calls Tryz.prog 88 #[v] w fun e w' => e = .returned (.string ⟨(Dec.textL l).toArray⟩) ∧ Below w.heap.size w w' := by
  rcases hb with ⟨rfl, rfl⟩ | ⟨p, cap, rfl, _, hp⟩
  · exact text_none none 0 w
  · cases l with
    | nil => exact text_none (some p) cap w
    | cons c l =>
      obtain ⟨b, off, rfl, h1, h2⟩ := hp (by simp)
      exact text_some b off cap (c :: l) w hlen h1 h2
end Go.Proofs.YtiidjkhkcckmkaaGreatDoor.Tx

/- The contracts of layer 1's Feed, End, All, for layers above (slices as G1 and G2 have them). -/
namespace Go.Proofs.YtiidjkhkcckmkaaGreatDoor.Tx
set_option linter.unusedSimpArgs false
set_option linter.unusedVariables false
open Go.RowKit Go.Lib
theorem quiet_alloc {w : World} (o : Obj) (n : Nat) : Below w.heap.size w ((w.alloc o).drewN n) := by
  have h := (Below.refl w.heap.size w).alloc (Nat.le_refl _) o
  exact ⟨h.os, h.tape, h.output, h.size, h.block⟩
set_option maxHeartbeats 4000000 in
set_option maxRecDepth 1000000 in
theorem full_any (s : ByteArray) (w : World) (hT : Lib.Utf8Tabs 0 1 w) :
    Calls Tryz.prog 117 #[.string s] w fun e w' => e = .returned (.bool (Dec.fullB s)) ∧ Below w.heap.size w w' := by
  by_cases h0 : s.size = 0
  · have hz : ((s.size : Int) == 0) = true := by simp [h0]
    have hres : Dec.fullB s = false := by simp [Dec.fullB, Dec.fullN, h0]
    have hres := Lib.hid hres
    clear h0
    go_enter Tryz.func117, Tryz.ntmps117
    go_wp2
    go_ret
    exact ⟨ret_bool hres.out.symm, Below.refl _ _⟩
  · have hz0 : (0 : Int) < (s.size : Int) := by omega
    have hz0' : ((s.size : Int) == 0) = false := beq_eq_false_iff_ne.2 (by omega)
    obtain ⟨x0, hx0⟩ : ∃ x0, s.get! 0 = x0 := ⟨_, rfl⟩
    obtain ⟨x1, hx1⟩ : ∃ x1, s.get! 1 = x1 := ⟨_, rfl⟩
    obtain ⟨x2, hx2⟩ : ∃ x2, s.get! 2 = x2 := ⟨_, rfl⟩
    have hs0 : s[0]'(by omega) = x0 := by rw [← hx0]; exact (Utf8W.get!_of_lt s 0 (by omega)).symm
    have l0 := x0.toNat_lt; have l1 := x1.toNat_lt; have l2 := x2.toNat_lt
    have hdec : Dec.fullB s = Dec.fullN s.size x0.toNat x1.toNat x2.toNat := by
      simp only [Dec.fullB, hx0, hx1, hx2]
    rw [hdec]
    clear hdec
    have hc0 := hT.1 x0.toNat (by omega)
    rcases Lib.firstT_cases x0.toNat with hX | hX | hX | hX | hX | hX | hX | hX | hX
    · rw [hX] at hc0
      have hres : Dec.fullN s.size x0.toNat x1.toNat x2.toNat = true := by simp [Dec.fullN, hX, h0]
      have hres := Lib.hid hres
      clear hT hX h0
      go_enter Tryz.func117, Tryz.ntmps117
      go_wp2
      go_ret
      exact ⟨ret_bool hres.out.symm, Below.refl _ _⟩
    · rw [hX] at hc0
      have hres : Dec.fullN s.size x0.toNat x1.toNat x2.toNat = true := by
        have h1 : 1 ≤ s.size := by omega
        simp [Dec.fullN, hX, h0, h1]
      have hres := Lib.hid hres
      clear hT hX h0
      go_enter Tryz.func117, Tryz.ntmps117
      go_wp2
      go_ret
      exact ⟨ret_bool hres.out.symm, Below.refl _ _⟩
    all_goals
      have ha := hT.2 (firstT x0.toNat / 16) (by omega)
      have hres : Hid (Dec.fullN s.size x0.toNat x1.toNat x2.toNat = _) := Lib.hid (by unfold Dec.fullN; rw [hX])
      rw [hX] at hc0 ha
      obtain ⟨ha0, ha1⟩ := ha
      obtain ⟨lo, hlo⟩ : ∃ lo, accLo (firstT x0.toNat / 16) = lo := ⟨_, rfl⟩
      obtain ⟨hi, hhi⟩ : ∃ hi, accHi (firstT x0.toNat / 16) = hi := ⟨_, rfl⟩
      rw [hX] at hlo hhi
      rw [hlo] at ha0
      rw [hhi] at ha1
      simp only [Nat.reduceMul, Nat.reduceAdd, Nat.reduceDiv, Int.cast_ofNat_Int] at ha0 ha1 hc0
      have hlo := Lib.hid hlo
      have hhi := Lib.hid hhi
      clear hT hX
      rcases (by omega : s.size = 1 ∨ s.size = 2 ∨ s.size = 3 ∨ 4 ≤ s.size) with hn | hn | hn | hn
      · have hn1 : decide ((1 : Int) < (s.size : Int)) = false := by simp; omega
        have hn2 : decide ((2 : Int) < (s.size : Int)) = false := by simp; omega
        have hn3 : (s.size : Int) < 2 := by omega
        have H := Lib.hid hn
        clear hn h0
        go_enter Tryz.func117, Tryz.ntmps117
        go_wp2
        go_quiet (fail)
        go_wp2
        go_ret
        exact ⟨ret_bool (by rw [hres.out, H.out]; simp), quiet_alloc _ _⟩
      · have hn1 : (1 : Int) < (s.size : Int) := by omega
        have hn2 : decide ((2 : Int) < (s.size : Int)) = false := by simp; omega
        have hn3 : (s.size : Int) < 3 := by omega
        obtain ⟨hl1, hs1⟩ : ∃ h : 1 < s.size, s[1]'h = x1 := ⟨by omega, by rw [← hx1]; exact (Utf8W.get!_of_lt s 1 (by omega)).symm⟩
        have H := Lib.hid hn
        clear hn h0
        first
        | (go_enter Tryz.func117, Tryz.ntmps117
           go_wp2
           go_ret
           exact ⟨ret_bool (by rw [hres.out, H.out]; simp), Below.refl _ _⟩)
        | (rcases (by omega : x1.toNat < lo ∨ (¬ x1.toNat < lo ∧ hi < x1.toNat) ∨ (¬ x1.toNat < lo ∧ ¬ hi < x1.toNat)) with hb | ⟨hb, hd⟩ | ⟨hb, hd⟩
           · have e1 : decide (x1.toNat < lo) = true := by simpa using hb
             have H1 := Lib.hid hb
             clear hb
             go_enter Tryz.func117, Tryz.ntmps117
             go_wp2
             go_quiet (fail)
             go_wp2
             go_ret
             exact ⟨ret_bool (by rw [hres.out, H.out, hlo.out, hhi.out]; simp; have := H1.out; omega), quiet_alloc _ _⟩
           · have e1 : decide (x1.toNat < lo) = false := by simpa using hb
             have e2 : decide (hi < x1.toNat) = true := by simpa using hd
             have H1 := Lib.hid hd
             clear hb hd
             go_enter Tryz.func117, Tryz.ntmps117
             go_wp2
             go_quiet (fail)
             go_wp2
             go_ret
             exact ⟨ret_bool (by rw [hres.out, H.out, hlo.out, hhi.out]; simp; have := H1.out; omega), quiet_alloc _ _⟩
           · have e1 : decide (x1.toNat < lo) = false := by simpa using hb
             have e2 : decide (hi < x1.toNat) = false := by simpa using hd
             have H1 := Lib.hid hb
             have H2 := Lib.hid hd
             clear hb hd
             go_enter Tryz.func117, Tryz.ntmps117
             go_wp2
             go_quiet (fail)
             go_wp2
             go_ret
             exact ⟨ret_bool (by rw [hres.out, H.out, hlo.out, hhi.out]; simp; have := H1.out; have := H2.out; omega), quiet_alloc _ _⟩)
      · have hn1 : (1 : Int) < (s.size : Int) := by omega
        have hn2 : (2 : Int) < (s.size : Int) := by omega
        have hn3 : (s.size : Int) < 4 := by omega
        obtain ⟨hl1, hs1⟩ : ∃ h : 1 < s.size, s[1]'h = x1 := ⟨by omega, by rw [← hx1]; exact (Utf8W.get!_of_lt s 1 (by omega)).symm⟩
        obtain ⟨hl2, hs2⟩ : ∃ h : 2 < s.size, s[2]'h = x2 := ⟨by omega, by rw [← hx2]; exact (Utf8W.get!_of_lt s 2 (by omega)).symm⟩
        have H := Lib.hid hn
        clear hn h0
        first
        | (go_enter Tryz.func117, Tryz.ntmps117
           go_wp2
           go_ret
           exact ⟨ret_bool (by rw [hres.out, H.out]; simp), Below.refl _ _⟩)
        | (rcases (by omega : x1.toNat < lo ∨ (¬ x1.toNat < lo ∧ hi < x1.toNat) ∨ (¬ x1.toNat < lo ∧ ¬ hi < x1.toNat)) with hb | ⟨hb, hd⟩ | ⟨hb, hd⟩
           · have e1 : decide (x1.toNat < lo) = true := by simpa using hb
             have H1 := Lib.hid hb
             clear hb
             go_enter Tryz.func117, Tryz.ntmps117
             go_wp2
             go_quiet (fail)
             go_wp2
             go_ret
             exact ⟨ret_bool (by rw [hres.out, H.out, hlo.out, hhi.out]; have := H1.out; simp [this]), quiet_alloc _ _⟩
           · have e1 : decide (x1.toNat < lo) = false := by simpa using hb
             have e2 : decide (hi < x1.toNat) = true := by simpa using hd
             have H1 := Lib.hid hd
             clear hb hd
             go_enter Tryz.func117, Tryz.ntmps117
             go_wp2
             go_quiet (fail)
             go_wp2
             go_ret
             exact ⟨ret_bool (by rw [hres.out, H.out, hlo.out, hhi.out]; have := H1.out; simp [this]), quiet_alloc _ _⟩
           · have e1 : decide (x1.toNat < lo) = false := by simpa using hb
             have e2 : decide (hi < x1.toNat) = false := by simpa using hd
             have H1 := Lib.hid hb
             have H2 := Lib.hid hd
             clear hb hd
             rcases (by omega : x2.toNat < 128 ∨ (¬ x2.toNat < 128 ∧ 191 < x2.toNat) ∨ (¬ x2.toNat < 128 ∧ ¬ 191 < x2.toNat)) with hb | ⟨hb, hd⟩ | ⟨hb, hd⟩
             · have e3 : decide ((x2.toNat : Int) < 128) = true := by simp; omega
               have H3 := Lib.hid hb
               clear hb
               go_enter Tryz.func117, Tryz.ntmps117
               go_wp2
               go_quiet (fail)
               go_wp2
               go_ret
               exact ⟨ret_bool (by rw [hres.out, H.out]; have := H3.out; simp [this]), quiet_alloc _ _⟩
             · have e3 : decide ((x2.toNat : Int) < 128) = false := by simp; omega
               have e4 : decide ((191 : Int) < (x2.toNat : Int)) = true := by simp; omega
               have H3 := Lib.hid hd
               clear hb hd
               go_enter Tryz.func117, Tryz.ntmps117
               go_wp2
               go_quiet (fail)
               go_wp2
               go_ret
               exact ⟨ret_bool (by rw [hres.out, H.out]; have := H3.out; simp [this]), quiet_alloc _ _⟩
             · have e3 : decide ((x2.toNat : Int) < 128) = false := by simp; omega
               have e4 : decide ((191 : Int) < (x2.toNat : Int)) = false := by simp; omega
               have H3 := Lib.hid hb
               have H4 := Lib.hid hd
               clear hb hd
               go_enter Tryz.func117, Tryz.ntmps117
               go_wp2
               go_quiet (fail)
               go_wp2
               go_ret
               exact ⟨ret_bool (by rw [hres.out, H.out, hlo.out, hhi.out]; simp; have := H1.out; have := H2.out; have := H3.out; have := H4.out; omega), quiet_alloc _ _⟩)
      · have hn3 : (4 : Int) ≤ (s.size : Int) := by omega
        have H := Lib.hid hn
        clear h0 hn
        go_enter Tryz.func117, Tryz.ntmps117
        go_wp2
        go_ret
        exact ⟨ret_bool (by have h := H.out; rw [hres.out, decide_eq_true (p := s.size ≠ 0) (by omega)]; simp; exact Or.inl (Or.inl (by omega))), Below.refl _ _⟩
def Own (B : Nat) (v : Value) (l : List Int) (w : World) : Prop := w.ownsRow B 3 1 v l.length (l.map (Value.int .i64))
theorem own_nil (B : Nat) (w : World) : Own B (.slice none 0 0) [] w := World.ownsRow_nil w B 3 1
theorem own_one (B : Nat) (x : Int) (w : World) (hB : B ≤ w.heap.size) : Own B (.slice (some ⟨w.heap.size, 0, none⟩) 1 1) [x] (w.alloc (.cells #[.int .i64 x] 3)) :=
  ⟨rfl, .inr ⟨w.heap.size, 1, #[.int .i64 x], rfl, hB, heap_alloc_new w _, Nat.le_refl _, by decide, rfl, rfl⟩⟩
theorem empty_of_size {s : ByteArray} (h : s.size = 0) : s.toList.isEmpty = true := by
  rw [Lib.toList_data]
  cases s with
  | mk d =>
    have h' : d.size = 0 := h
    simpa using h'
theorem nonempty_of_size {s : ByteArray} (h : ¬ s.size = 0) : s.toList.isEmpty = false := by
  rw [Lib.toList_data]
  cases s with
  | mk d =>
    have h' : ¬ d.size = 0 := h
    simpa using h'
set_option maxHeartbeats 400000 in
theorem begins_any (s : ByteArray) (w : World) (hT : Lib.Utf8Tabs 0 1 w) :
    Calls Tryz.prog 77 #[.string s] w fun e w' => e = .returned (.bool (Dec.begB s)) ∧ Below w.heap.size w w' := by
  by_cases h0 : s.size = 0
  · have hs := empty_of_size h0
    have hres : Dec.begB s = false := by simp [Dec.begB, h0]
    have hres := Lib.hid hres
    clear h0
    go_enter Tryz.func77, Tryz.ntmps77
    go_wp2_with fail
    go_ret
    exact ⟨ret_bool hres.out.symm, Below.refl _ _⟩
  · have hs := nonempty_of_size h0
    have H := Lib.hid h0
    clear h0
    go_enter Tryz.func77, Tryz.ntmps77
    go_wp2_with (go_at_call 117; refine (full_any s _ hT).mono ?_; rintro e w1 ⟨rfl, hb1⟩)
    go_ret
    exact ⟨ret_bool (by simp [Dec.begB, H.out]), hb1⟩
theorem tabs_alloc {w : World} (hT : Lib.Utf8Tabs 0 1 w) (o : Obj) : Lib.Utf8Tabs 0 1 (w.alloc o) := Utf8Tabs_below hT ((Below.refl _ _).alloc (Nat.le_refl _) _)
set_option maxHeartbeats 400000 in
theorem sane_any (s : ByteArray) (w : World) (hT : Lib.Utf8Tabs 0 1 w) :
    Calls Tryz.prog 47 #[.agg #[.string s]] w fun e w' => e = .returned (.bool (Dec.saneB s)) ∧ Below w.heap.size w w' := by
  by_cases h0 : s.size = 0
  · have hs := empty_of_size h0
    have hres : Dec.saneB s = true := by simp [Dec.saneB, h0]
    have hres := Lib.hid hres
    clear h0
    go_enter Tryz.func47, Tryz.ntmps47
    go_wp2_with fail
    go_ret
    exact ⟨ret_bool hres.out.symm, (Below.refl _ _).alloc (Nat.le_refl _) _⟩
  · have hs := nonempty_of_size h0
    have H := Lib.hid h0
    clear h0
    go_enter Tryz.func47, Tryz.ntmps47
    go_wp2_with (go_at_call 77; refine (begins_any s _ (tabs_alloc hT _)).mono ?_; rintro e w1 ⟨rfl, hb1⟩)
    go_ret
    exact ⟨ret_bool (by simp [Dec.saneB, H.out]), below_in hb1⟩
set_option maxHeartbeats 400000 in
theorem end_any (s : ByteArray) (w : World) (hT : Lib.Utf8Tabs 0 1 w) :
    Calls Tryz.prog 73 #[.agg #[.string s]] w fun e w' => ∃ v, e = .returned v ∧ Own w.heap.size v (if Dec.begB s then [65533] else []) w' ∧ Below w.heap.size w w' := by
  cases hg : Dec.begB s with
  | true =>
    have H := Lib.hid hg
    clear hg
    go_enter Tryz.func73, Tryz.ntmps73
    go_wp2_with (go_at_call 77; refine (begins_any s _ (tabs_alloc hT _)).mono ?_; rintro e w1 ⟨rfl, hb1⟩; rw [H.out])
    go_ret
    have hb2 := below_in hb1
    exact ⟨_, rfl, own_one _ _ _ hb2.size, hb2.alloc hb2.size _⟩
  | false =>
    have H := Lib.hid hg
    clear hg
    go_enter Tryz.func73, Tryz.ntmps73
    go_wp2_with (go_at_call 77; refine (begins_any s _ (tabs_alloc hT _)).mono ?_; rintro e w1 ⟨rfl, hb1⟩; rw [H.out])
    go_ret
    exact ⟨_, rfl, own_nil _ _, below_in hb1⟩
def Box (w : World) (k : Nat) (v : Value) : Prop := k < w.heap.size ∧ w.cell? ⟨k, 0, none⟩ = some v ∧ w.frozen? ⟨k, 0, none⟩ = false
theorem box_new (w : World) (v : Value) (T : TypeId) : Box (w.alloc (.cells #[v] T)) w.heap.size v := by
  refine ⟨by simp, ?_, ?_⟩
  · simp
  · simp
theorem box_alloc {w : World} {k : Nat} {v : Value} (h : Box w k v) (o : Obj) : Box (w.alloc o) k v := by
  obtain ⟨h0, h1, h2⟩ := h
  exact ⟨by simp; omega, by rw [World.cell?_alloc_lt _ _ _ h0]; exact h1, by rw [World.frozen?_alloc_past _ _ _ h0]; exact h2⟩
theorem box_below {w w1 : World} {k : Nat} {v : Value} (h : Box w k v) (hb : Below w.heap.size w w1) : Box w1 k v := by
  obtain ⟨h0, h1, h2⟩ := h
  have := hb.size
  exact ⟨by omega, by rw [hb.cell h0]; exact h1, by rw [hb.frozen h0]; exact h2⟩
theorem box_grown {w w1 : World} {k : Nat} {v : Value} {row : Option Nat} (h : Box w k v) (hg : w.drew.grownBy w1 row) (hne : some k ≠ row) : Box w1 k v := by
  obtain ⟨h0, h1, h2⟩ := h
  have hb := hg.block k h0 hne
  have := hg.size
  exact ⟨Nat.lt_of_lt_of_le h0 this, by rw [World.cell?_of_block (w := w) hb]; exact h1, by rw [World.frozen?_of_block (w := w) hb]; exact h2⟩
theorem grown_below {B : Nat} {w0 w w1 : World} {k n c : Nat} (h : Below B w0 w) (hg : w.drew.grownBy w1 (Value.slice (some ⟨k, 0, none⟩) n c).ownBlock) (hB : B ≤ w.heap.size) (hk : B ≤ k) : Below B w0 w1 :=
  h.drew.grown hg hB (fun j hj => by simp [Value.ownBlock] at hj; omega)
theorem run_bytes1 (c : UInt8) (W : World) : (convert 59 9 (.slice (some ⟨W.heap.size, 0, none⟩) 1 1)).run Tryz.prog (W.alloc (.cells #[.int .u8 c.toNat] 5)) = .ok (.string ⟨#[c]⟩) (W.alloc (.cells #[.int .u8 c.toNat] 5)) := by
  refine run_convert_bytes_back (P := Tryz.prog) _ 59 9 5 ⟨W.heap.size, 0, none⟩ 1 [c] Tryz.underlying59 Tryz.underlying5 Tryz.underlying9 ?_
  intro j hj
  have : j = 0 := by simpa using hj
  subst this
  simp [Addr.add]
theorem feed_tabs {w w1 : World} {o1 o2 o3 : Obj} (hT : Lib.Utf8Tabs 0 1 w) (hb1 : Below ((w.alloc o1).alloc o2).heap.size ((w.alloc o1).alloc o2) w1) : Lib.Utf8Tabs 0 1 (w1.alloc o3) :=
  tabs_alloc (Utf8Tabs_below (tabs_alloc (tabs_alloc hT _) _) hb1) _
theorem below_two {w w1 : World} {o1 o2 : Obj} (hb1 : Below ((w.alloc o1).alloc o2).heap.size ((w.alloc o1).alloc o2) w1) : Below w.heap.size w w1 :=
  (((Below.refl _ _).alloc (Nat.le_refl _) _).alloc (by simp) _).trans (hb1.mono (by simp; omega))
theorem below_step {w w1 w2 : World} {o3 : Obj} (hb1 : Below w.heap.size w w1) (hb2 : Below (w1.alloc o3).heap.size (w1.alloc o3) w2) : Below w.heap.size w w2 :=
  (hb1.alloc hb1.size _).trans (hb2.mono (by have := hb1.size; simp; omega))
set_option maxHeartbeats 400000 in
theorem feed_beg (s : ByteArray) (c : UInt8) (w : World) (hT : Lib.Utf8Tabs 0 1 w) (hm : s.size ≤ 3) (hs : Dec.saneB s = true) (hg : Dec.begB (s ++ ⟨#[c]⟩) = true) :
    Calls Tryz.prog 57 #[.agg #[.string s], .int .u8 c.toNat] w fun e w' => e = .returned (.tuple #[.agg #[.string (s ++ ⟨#[c]⟩)], .slice none 0 0]) ∧ Below w.heap.size w w' := by
  have H := Lib.hid hs
  have hcv := run_bytes1 c
  obtain ⟨b, hb⟩ : ∃ b, s ++ (⟨#[c]⟩ : ByteArray) = b := ⟨_, rfl⟩
  rw [hb] at hg ⊢
  have G := Lib.hid hg
  clear hs hg
  go_enter Tryz.func57, Tryz.ntmps57
  go_wp2_with fail
  refine (sane_any s _ (tabs_alloc (tabs_alloc hT _) _)).mono ?_
  rintro e w1 ⟨rfl, hb1⟩
  obtain ⟨z0, q0, r0⟩ := box_below (box_alloc (box_new w (.string s) 35) _) hb1
  have hx1 := box_below (box_new (w.alloc (Obj.cells #[Value.string s] 35)) (.string { data := #[] }) 35) hb1
  simp only [World.size_alloc] at hx1
  have X1 := Lib.hid hx1
  clear hx1
  rw [H.out]
  go_wp2_with fail
  refine (begins_any b _ (feed_tabs hT hb1)).mono ?_
  rintro e w2 ⟨rfl, hb2⟩
  obtain ⟨z1, q1, r1⟩ := box_below (box_alloc X1.out _) hb2
  have hb3 := below_step (below_two hb1) hb2
  rw [G.out]
  clear hT
  go_wp2_with fail
  refine bodyPost_ret (v := .tuple #[.agg #[.string b], .slice none 0 0]) (by simp [results, Tryz.results57, go_sem, q1]) rfl ⟨rfl, ?_⟩
  exact hb3.setCell (by simp) _
theorem own_one_at (B : Nat) (x : Int) (w : World) (k : Nat) (hk : w.heap.size = k) (hB : B ≤ w.heap.size) : Own B (.slice (some ⟨k, 0, none⟩) 1 1) [x] (w.alloc (.cells #[.int .i64 x] 3)) := by
  subst hk
  exact own_one B x w hB
theorem info_int : (Tryz.prog.info? 3).map (fun i => (i.zero, i.size, i.bytes)) = some (some (.int .i64 0), 1, 8) := by kernel_rfl
theorem own_drew {B : Nat} {v : Value} {l : List Int} {w : World} (h : Own B v l w) : Own B v l w.drew := h
theorem own_src {B : Nat} {v : Value} {l : List Int} {w : World} (h : Own B v l w) :
    (v = .slice none 0 0 ∧ l = []) ∨ ∃ g cap, v = .slice (some ⟨g, 0, none⟩) l.length cap ∧ B ≤ g ∧ g < w.heap.size ∧ ∀ j u, (l.map (Value.int .i64))[j]? = some u → w.cell? ((⟨g, 0, none⟩ : Addr).add j) = some u := by
  have hc := fun g hg => World.ownsRow.cells (g := g) h hg
  have hlt := World.ownsRow.lt h
  rcases h.2 with ⟨rfl, hl⟩ | ⟨g, cap, cur, rfl, hB, _⟩
  · exact .inl ⟨rfl, List.eq_nil_of_length_eq_zero hl⟩
  · exact .inr ⟨g, cap, rfl, hB, (hlt g rfl).2, hc g rfl⟩
theorem own_set {B : Nat} {v : Value} {l : List Int} {w : World} (h : Own B v l w) (a : Addr) (u : Value) (hne : v.ownBlock = none ∨ v.ownBlock ≠ some a.block) : Own B v l (w.setCell a u) := by
  refine World.ownsRow.kept (row := some a.block) h ⟨rfl, rfl, rfl, by simp [World.setCell], fun k _ hk => ?_⟩ hne
  exact Below.heap_setCell _ _ _ _ (fun e => hk (by rw [e]))
theorem ne_own {j k n c : Nat} (h : j ≠ k) : some j ≠ (Value.slice (some ⟨k, 0, none⟩) n c).ownBlock := by
  intro e
  exact h (Option.some.inj e)
theorem own_mono {B B' : Nat} {v : Value} {l : List Int} {w : World} (h : Own B' v l w) (hB : B ≤ B') : Own B v l w := by
  refine ⟨h.1, ?_⟩
  rcases h.2 with hn | ⟨g, cap, cur, hv, hg, r⟩
  · exact .inl hn
  · exact .inr ⟨g, cap, cur, hv, Nat.le_trans hB hg, r⟩
theorem own_ne {B k : Nat} {v : Value} {l : List Int} {w : World} (h : Own B v l w) (hk : k < B) : v.ownBlock = none ∨ v.ownBlock ≠ some k := by
  refine .inr fun e => ?_
  have := (World.ownsRow.lt h k e).1
  omega
theorem own_of_row {B n : Nat} {v : Value} {l : List Int} {xs : List Value} {w : World} (h : w.ownsRow B 3 1 v n xs) (hn : n = l.length) (hx : xs = l.map (Value.int .i64)) : Own B v l w := by
  subst hn
  subst hx
  exact h
theorem ints_oneCell (l : List Int) : ∀ u ∈ l.map (Value.int .i64), u.oneCell' = true := by
  intro u hu
  obtain ⟨x, _, rfl⟩ := List.mem_map.1 hu
  rfl
set_option maxHeartbeats 400000 in
theorem feed_dec (s : ByteArray) (c : UInt8) (w : World) (hT : Lib.Utf8Tabs 0 1 w) (hm : s.size ≤ 3) (hs : Dec.saneB s = true) (hg : Dec.begB (s ++ ⟨#[c]⟩) = false) (hd : (Lib.decodeGo (s ++ ⟨#[c]⟩)).2 = (s ++ ⟨#[c]⟩).size) :
    Calls Tryz.prog 57 #[.agg #[.string s], .int .u8 c.toNat] w fun e w' => ∃ v, e = .returned (.tuple #[.agg #[.string ⟨#[]⟩], v]) ∧ Own w.heap.size v [((Lib.decodeGo (s ++ ⟨#[c]⟩)).1 : Int)] w' ∧ Below w.heap.size w w' := by
  have H := Lib.hid hs
  have hcv := run_bytes1 c
  obtain ⟨b, hb⟩ : ∃ b, s ++ (⟨#[c]⟩ : ByteArray) = b := ⟨_, rfl⟩
  rw [hb] at hg hd ⊢
  have G := Lib.hid hg
  have e1 := beq_nat_int hd
  have hr := Dec.decodeGo_range b
  have hsz : b.size ≤ 4 := by rw [← hb, ByteArray.size_append]; show s.size + 1 ≤ 4; omega
  clear hs hg hd
  obtain ⟨r, hr0⟩ : ∃ r, (Lib.decodeGo b).1 = r := ⟨_, rfl⟩
  obtain ⟨n, hn0⟩ : ∃ n, (Lib.decodeGo b).2 = n := ⟨_, rfl⟩
  rw [hr0] at hr ⊢
  rw [hn0] at e1
  go_enter Tryz.func57, Tryz.ntmps57
  go_wp2_with fail
  refine (sane_any s _ (tabs_alloc (tabs_alloc hT _) _)).mono ?_
  rintro e w1 ⟨rfl, hb1⟩
  obtain ⟨z0, q0, r0⟩ := box_below (box_alloc (box_new w (.string s) 35) _) hb1
  have hx1 := box_below (box_new (w.alloc (Obj.cells #[Value.string s] 35)) (.string { data := #[] }) 35) hb1
  simp only [World.size_alloc] at hx1
  have X1 := Lib.hid hx1
  clear hx1
  rw [H.out]
  go_wp2_with fail
  refine (begins_any b _ (feed_tabs hT hb1)).mono ?_
  rintro e w2 ⟨rfl, hb2⟩
  have X2 := Lib.hid (box_below (box_alloc X1.out _) hb2)
  have hb3 := below_step (below_two hb1) hb2
  rw [G.out]
  clear z0 q0 r0
  go_wp2_with fail
  refine (Tryz.utf8_DecodeRuneInString b _ (Utf8Tabs_below (feed_tabs hT hb1) hb2)).mono ?_
  rintro e w3 ⟨rfl, hb4⟩
  obtain ⟨z1, q1, r1⟩ := box_below X2.out hb4
  have hb5 := hb3.trans (hb4.mono hb3.size)
  rw [hr0, hn0]
  clear hT hr0 hn0 hb
  go_wp2_with fail
  refine bodyPost_ret (v := .tuple #[.agg #[.string ⟨#[]⟩], _]) (by simp [results, Tryz.results57, go_sem, q1, z1]; rfl) rfl ⟨_, rfl, ?_, ?_⟩
  · exact own_one_at _ _ _ _ (by simp) (by have := hb5.size; simp; omega)
  · exact (hb5.setCell (by simp) _).alloc (by have := hb5.size; simp; omega) _
set_option maxHeartbeats 400000 in
theorem feed_rec (s : ByteArray) (c : UInt8) (w : World) (hT : Lib.Utf8Tabs 0 1 w) (hm : s.size ≤ 3) (hs : Dec.saneB s = true) (hg : Dec.begB (s ++ ⟨#[c]⟩) = false) (hd : ¬ (Lib.decodeGo (s ++ ⟨#[c]⟩)).2 = (s ++ ⟨#[c]⟩).size)
    (t : ByteArray) (l : List Int) (hl : l.length ≤ 1) (h0 : ∀ w, Lib.Utf8Tabs 0 1 w → Calls Tryz.prog 57 #[.agg #[.string ⟨#[]⟩], .int .u8 c.toNat] w fun e w' => ∃ v, e = .returned (.tuple #[.agg #[.string t], v]) ∧ Own w.heap.size v l w' ∧ Below w.heap.size w w') :
    Calls Tryz.prog 57 #[.agg #[.string s], .int .u8 c.toNat] w fun e w' => ∃ v, e = .returned (.tuple #[.agg #[.string t], v]) ∧ Own w.heap.size v (65533 :: l) w' ∧ Below w.heap.size w w' := by
  have H := Lib.hid hs
  have hcv := run_bytes1 c
  obtain ⟨b, hb⟩ : ∃ b, s ++ (⟨#[c]⟩ : ByteArray) = b := ⟨_, rfl⟩
  rw [hb] at hg hd
  have G := Lib.hid hg
  have e1 := bne_nat_int hd
  have hr := Dec.decodeGo_range b
  have hsz : b.size ≤ 4 := by rw [← hb, ByteArray.size_append]; show s.size + 1 ≤ 4; omega
  have K0 := Lib.hid h0
  clear hs hg hd h0
  obtain ⟨r, hr0⟩ : ∃ r, (Lib.decodeGo b).1 = r := ⟨_, rfl⟩
  obtain ⟨n, hn0⟩ : ∃ n, (Lib.decodeGo b).2 = n := ⟨_, rfl⟩
  rw [hr0] at hr
  rw [hn0] at e1
  go_enter Tryz.func57, Tryz.ntmps57
  go_wp2_with fail
  refine (sane_any s _ (tabs_alloc (tabs_alloc hT _) _)).mono ?_
  rintro e w1 ⟨rfl, hb1⟩
  obtain ⟨z0, q0, r0⟩ := box_below (box_alloc (box_new w (.string s) 35) _) hb1
  have hx1 := box_below (box_new (w.alloc (Obj.cells #[Value.string s] 35)) (.string { data := #[] }) 35) hb1
  simp only [World.size_alloc] at hx1
  have X1 := Lib.hid hx1
  clear hx1
  rw [H.out]
  go_wp2_with fail
  refine (begins_any b _ (feed_tabs hT hb1)).mono ?_
  rintro e w2 ⟨rfl, hb2⟩
  have X2 := Lib.hid (box_below (box_alloc X1.out _) hb2)
  have hb3 := below_step (below_two hb1) hb2
  rw [G.out]
  clear z0 q0 r0
  go_wp2_with fail
  refine (Tryz.utf8_DecodeRuneInString b _ (Utf8Tabs_below (feed_tabs hT hb1) hb2)).mono ?_
  rintro e w3 ⟨rfl, hb4⟩
  have X3 := Lib.hid (box_below X2.out hb4)
  have hb5 := hb3.trans (hb4.mono hb3.size)
  have hT3 := Lib.hid (Utf8Tabs_below (Utf8Tabs_below (feed_tabs hT hb1) hb2) hb4)
  rw [hr0, hn0]
  clear hT hr0 hn0 hb hb1 hb2 hb3 hb4 X1 X2 hcv
  go_wp2_with fail
  refine (K0.out _ hT3.out).mono ?_
  rintro e w4 ⟨v, rfl, hv, hb6⟩
  have hb7 := hb5.trans (hb6.mono hb5.size)
  have X4 := Lib.hid (box_alloc (box_alloc (box_below X3.out hb6) (Obj.cells #[Value.string t] 35)) (Obj.cells #[Value.int IntKind.i64 65533] 3))
  have XT := Lib.hid (box_alloc (box_new w4 (Value.string t) 35) (Obj.cells #[Value.int IntKind.i64 65533] 3))
  have hz5 : w.heap.size + 2 ≤ w4.heap.size := by have := X3.out.1; have := hb6.size; omega
  have hown := Lib.hid (own_one_at (w.heap.size + 2) 65533 (w4.alloc (Obj.cells #[Value.string t] 35)) (w4.heap.size + 1) (by simp) (by simp; omega))
  have hB := Lib.hid ((hb7.alloc hb7.size (Obj.cells #[Value.string t] 35)).alloc (by have := hb7.size; simp; omega) (Obj.cells #[Value.int IntKind.i64 65533] 3))
  obtain ⟨i0, hi, hz0, hz1, hz2⟩ := info_parts info_int
  have hne : w.heap.size + 1 ≠ w4.heap.size + 1 := by omega
  rcases own_src hv with ⟨rfl, rfl⟩ | ⟨g, cap, rfl, hg, hgl, hsrc⟩
  · obtain ⟨z4, q4, r4⟩ := X4.out
    clear hv hb5 hb6 hb7
    go_wp2_with fail
    go_region_law (refine step_append_own_none rfl (.tmp 45) (.tmp 46) 24 rfl (w.heap.size + 2) 3 i0 1 Tryz.underlying24 hi _ 1 _ rfl (own_drew hown.out) rfl ?_)
    all_goals go_wp2_with fail
    all_goals refine bodyPost_ret (v := .tuple #[.agg #[.string t], _]) (by simp [results, Tryz.results57, go_sem, q4]; rfl) rfl ⟨_, rfl, ?_, ?_⟩
    all_goals first | exact (hB.out.setCell (by simp) _).drew | exact own_drew (own_mono (own_set hown.out _ _ (own_ne hown.out (by simp))) (by omega))
  · have hsrc5 : ∀ j u, (l.map (Value.int .i64))[j]? = some u → ((w4.alloc (Obj.cells #[Value.string t] 35)).alloc (Obj.cells #[Value.int IntKind.i64 65533] 3)).drew.cell? ((⟨g, 0, none⟩ : Addr).add j) = some u := by
      intro j u hu
      have h := hsrc j u hu
      have h1 := World.cell?_alloc_lt (w := w4) (o := Obj.cells #[Value.string t] 35) (a := (⟨g, 0, none⟩ : Addr).add j) (World.block_lt_of_cell? _ _ h)
      have h2 := World.cell?_alloc_lt (w := w4.alloc (Obj.cells #[Value.string t] 35)) (o := Obj.cells #[Value.int IntKind.i64 65533] 3) (a := (⟨g, 0, none⟩ : Addr).add j) (World.block_lt_of_cell? _ _ (h1.trans h))
      exact h2.trans (h1.trans h)
    have hsrc5 := Lib.hid hsrc5
    clear hv hb5 hb6 hb7 hsrc hg
    go_wp2_with fail
    go_region_law (refine step_append_own rfl (.tmp 45) (.tmp 46) 24 rfl (w.heap.size + 2) 3 i0 (.int .i64 0) 1 8 Tryz.underlying24 hi hz0 hz1 hz2 rfl (by decide) _ 1 _ rfl (own_drew hown.out) ⟨g, 0, none⟩ l.length cap (l.map (Value.int .i64)) rfl (by simp) hsrc5.out (ints_oneCell l) (by unfold maxLen; omega) (by omega) (by simp; omega) ?_; intro v5 w5 hown5 hgrow5; obtain ⟨z5, q5, r5⟩ := box_grown X4.out hgrow5 (ne_own hne); obtain ⟨z6, q6, r6⟩ := box_grown XT.out hgrow5 (ne_own (by omega)); have hb8 := grown_below hB.out hgrow5 hB.out.size (by omega))
    all_goals go_wp2_with fail
    all_goals refine bodyPost_ret (v := .tuple #[.agg #[.string t], _]) (by simp [results, Tryz.results57, go_sem, q5]; rfl) rfl ⟨_, rfl, ?_, ?_⟩
    all_goals first | exact hb8.setCell (by simp) _ | exact own_mono (own_set (own_of_row hown5 (by simp; omega) (by simp)) _ _ (own_ne (l := 65533 :: l) (own_of_row hown5 (by simp; omega) (by simp)) (by simp))) (by omega)
theorem run_bytes1_set (c : UInt8) (W : World) (a : Addr) (u : Value) : (convert 59 9 (.slice (some ⟨W.heap.size, 0, none⟩) 1 1)).run Tryz.prog ((W.setCell a u).alloc (.cells #[.int .u8 c.toNat] 5)) = .ok (.string ⟨#[c]⟩) ((W.setCell a u).alloc (.cells #[.int .u8 c.toNat] 5)) := by
  have h := run_bytes1 c (W.setCell a u)
  rw [show (W.setCell a u).heap.size = W.heap.size from by simp] at h
  exact h
theorem box_set' {w : World} {k : Nat} {v : Value} (h : Box w k v) (a : Addr) (u : Value) (hne : a.block ≠ k) : Box (w.setCell a u) k v := by
  obtain ⟨h0, h1, h2⟩ := h
  refine ⟨by simpa using h0, ?_, by rw [World.frozen?_setCell]; exact h2⟩
  rw [World.cell?_setCell_other]
  · exact h1
  · intro e
    exact hne (by rw [e])
set_option maxHeartbeats 400000 in
theorem feed_beg_ins (s : ByteArray) (c : UInt8) (w : World) (hT : Lib.Utf8Tabs 0 1 w) (hs : Dec.saneB s = false) (hg : Dec.begB (⟨#[]⟩ ++ ⟨#[c]⟩) = true) :
    Calls Tryz.prog 57 #[.agg #[.string s], .int .u8 c.toNat] w fun e w' => e = .returned (.tuple #[.agg #[.string (⟨#[]⟩ ++ ⟨#[c]⟩)], .slice none 0 0]) ∧ Below w.heap.size w w' := by
  have H := Lib.hid hs
  have hcv := run_bytes1_set c
  have hsz : ((⟨#[]⟩ : ByteArray) ++ ⟨#[c]⟩).size = 1 := Dec.size_one c
  obtain ⟨b, hb⟩ : ∃ b, (⟨#[]⟩ : ByteArray) ++ (⟨#[c]⟩ : ByteArray) = b := ⟨_, rfl⟩
  rw [hb] at hg hsz ⊢
  have G := Lib.hid hg
  clear hs hg
  have hsz1 : b.size ≤ 4 := by omega
  clear hsz
  go_enter Tryz.func57, Tryz.ntmps57
  go_wp2_with fail
  refine (sane_any s _ (tabs_alloc (tabs_alloc hT _) _)).mono ?_
  rintro e w1 ⟨rfl, hb1⟩
  obtain ⟨z0, q0, r0⟩ := box_below (box_alloc (box_new w (.string s) 35) _) hb1
  have hx1 := box_below (box_new (w.alloc (Obj.cells #[Value.string s] 35)) (.string { data := #[] }) 35) hb1
  simp only [World.size_alloc] at hx1
  have X1 := Lib.hid (box_alloc (box_set' hx1 ⟨w.heap.size, 0, none⟩ (.string { data := #[] }) (by simp)) (.cells #[.int .u8 c.toNat] 5))
  have hb2 := (below_two hb1).setCell (p := ⟨w.heap.size, 0, none⟩) (Nat.le_refl _) (.string { data := #[] })
  clear hx1
  rw [H.out]
  go_wp2_with fail
  refine (begins_any b _ (tabs_alloc (Utf8Tabs_below hT hb2) _)).mono ?_
  rintro e w2 ⟨rfl, hb3⟩
  have hb4 := below_step hb2 hb3
  have hx2 := box_below X1.out hb3
  rw [G.out]
  obtain ⟨z1, q1, r1⟩ := hx2
  clear hT
  go_wp2_with fail
  refine bodyPost_ret (v := .tuple #[.agg #[.string b], .slice none 0 0]) (by simp [results, Tryz.results57, go_sem, q1]) rfl ⟨rfl, ?_⟩
  exact hb4.setCell (by simp) _
set_option maxHeartbeats 400000 in
theorem feed_dec_ins (s : ByteArray) (c : UInt8) (w : World) (hT : Lib.Utf8Tabs 0 1 w) (hs : Dec.saneB s = false) (hg : Dec.begB (⟨#[]⟩ ++ ⟨#[c]⟩) = false) :
    Calls Tryz.prog 57 #[.agg #[.string s], .int .u8 c.toNat] w fun e w' => ∃ v, e = .returned (.tuple #[.agg #[.string ⟨#[]⟩], v]) ∧ Own w.heap.size v [((Lib.decodeGo (⟨#[]⟩ ++ ⟨#[c]⟩)).1 : Int)] w' ∧ Below w.heap.size w w' := by
  have hd := Dec.decodeGo_one c
  have H := Lib.hid hs
  have hcv := run_bytes1_set c
  have hsz : ((⟨#[]⟩ : ByteArray) ++ ⟨#[c]⟩).size = 1 := Dec.size_one c
  obtain ⟨b, hb⟩ : ∃ b, (⟨#[]⟩ : ByteArray) ++ (⟨#[c]⟩ : ByteArray) = b := ⟨_, rfl⟩
  rw [hb] at hg hsz hd ⊢
  have G := Lib.hid hg
  have e1 := beq_nat_int (hd.trans hsz.symm)
  have hr := Dec.decodeGo_range b
  clear hs hg hd
  obtain ⟨r, hr0⟩ : ∃ r, (Lib.decodeGo b).1 = r := ⟨_, rfl⟩
  obtain ⟨n, hn0⟩ : ∃ n, (Lib.decodeGo b).2 = n := ⟨_, rfl⟩
  rw [hr0] at hr ⊢
  rw [hn0] at e1
  have hsz1 : b.size ≤ 4 := by omega
  clear hsz
  go_enter Tryz.func57, Tryz.ntmps57
  go_wp2_with fail
  refine (sane_any s _ (tabs_alloc (tabs_alloc hT _) _)).mono ?_
  rintro e w1 ⟨rfl, hb1⟩
  obtain ⟨z0, q0, r0⟩ := box_below (box_alloc (box_new w (.string s) 35) _) hb1
  have hx1 := box_below (box_new (w.alloc (Obj.cells #[Value.string s] 35)) (.string { data := #[] }) 35) hb1
  simp only [World.size_alloc] at hx1
  have X1 := Lib.hid (box_alloc (box_set' hx1 ⟨w.heap.size, 0, none⟩ (.string { data := #[] }) (by simp)) (.cells #[.int .u8 c.toNat] 5))
  have hb2 := (below_two hb1).setCell (p := ⟨w.heap.size, 0, none⟩) (Nat.le_refl _) (.string { data := #[] })
  clear hx1
  rw [H.out]
  go_wp2_with fail
  refine (begins_any b _ (tabs_alloc (Utf8Tabs_below hT hb2) _)).mono ?_
  rintro e w2 ⟨rfl, hb3⟩
  have hb4 := below_step hb2 hb3
  have hx2 := box_below X1.out hb3
  rw [G.out]
  have X2 := Lib.hid hx2
  clear hx2 z0 q0 r0
  go_wp2_with fail
  refine (Tryz.utf8_DecodeRuneInString b _ (Utf8Tabs_below hT hb4)).mono ?_
  rintro e w3 ⟨rfl, hb5⟩
  obtain ⟨z1, q1, r1⟩ := box_below X2.out hb5
  have hb6 := hb4.trans (hb5.mono hb4.size)
  rw [hr0, hn0]
  clear hT hr0 hn0 hb
  go_wp2_with fail
  refine bodyPost_ret (v := .tuple #[.agg #[.string ⟨#[]⟩], _]) (by simp [results, Tryz.results57, go_sem, q1, z1]; rfl) rfl ⟨_, rfl, ?_, ?_⟩
  · exact own_one_at _ _ _ _ (by simp) (by have := hb6.size; simp; omega)
  · exact (hb6.setCell (by simp) _).alloc (by have := hb6.size; simp; omega) _
theorem fullN_big (n b0 b1 b2 : Nat) (h : 4 ≤ n) : Dec.fullN n b0 b1 b2 = true := by
  have h1 : Lib.firstT b0 % 8 ≤ n := by
    rcases Lib.firstT_cases b0 with hX | hX | hX | hX | hX | hX | hX | hX | hX <;> rw [hX] <;> omega
  have h2 : n ≠ 0 := by omega
  simp [Dec.fullN, h1, h2]
theorem begB_size {s : ByteArray} (h : Dec.begB s = true) : s.size ≤ 3 := by
  rcases Nat.lt_or_ge 3 s.size with h3 | h3
  · have hf : Dec.fullB s = true := fullN_big _ _ _ _ h3
    simp [Dec.begB, hf] at h
  · exact h3
theorem saneB_size {s : ByteArray} (h : Dec.saneB s = true) : s.size ≤ 3 := by
  unfold Dec.saneB at h
  rcases Bool.or_eq_true _ _ ▸ h with h | h
  · have := of_decide_eq_true h
    omega
  · exact begB_size h
theorem feed_any (s : ByteArray) (c : UInt8) (w : World) (hT : Lib.Utf8Tabs 0 1 w) :
    Calls Tryz.prog 57 #[.agg #[.string s], .int .u8 c.toNat] w fun e w' => ∃ v, e = .returned (.tuple #[.agg #[.string (Dec.feed s c).1], v]) ∧ Own w.heap.size v (Dec.feed s c).2 w' ∧ Below w.heap.size w w' := by
  have h0 : ∀ w, Lib.Utf8Tabs 0 1 w → Calls Tryz.prog 57 #[.agg #[.string ⟨#[]⟩], .int .u8 c.toNat] w fun e w' => ∃ v, e = .returned (.tuple #[.agg #[.string (Dec.feed1 ⟨#[]⟩ c).1], v]) ∧ Own w.heap.size v (Dec.feed1 ⟨#[]⟩ c).2 w' ∧ Below w.heap.size w w' := by
    intro w hT
    rw [Dec.feed1_zero]
    cases hg : Dec.begB (⟨#[]⟩ ++ ⟨#[c]⟩) with
    | true =>
      rw [if_pos rfl]
      exact (feed_beg ⟨#[]⟩ c w hT (by decide) Dec.saneB_zero hg).mono fun e w' ⟨h1, h2⟩ => ⟨_, h1, own_nil _ _, h2⟩
    | false =>
      rw [if_neg (by simp)]
      exact feed_dec ⟨#[]⟩ c w hT (by decide) Dec.saneB_zero hg (by rw [Dec.decodeGo_one, Dec.size_one])
  unfold Dec.feed
  cases hs : Dec.saneB s with
  | true =>
    rw [if_pos rfl]
    have hm := saneB_size hs
    unfold Dec.feed1
    cases hg : Dec.begB (s ++ ⟨#[c]⟩) with
    | true =>
      rw [if_pos rfl]
      exact (feed_beg s c w hT hm hs hg).mono fun e w' ⟨h1, h2⟩ => ⟨_, h1, own_nil _ _, h2⟩
    | false =>
      rw [if_neg (by simp)]
      by_cases hd : (Lib.decodeGo (s ++ ⟨#[c]⟩)).2 = (s ++ ⟨#[c]⟩).size
      · rw [if_pos hd]
        exact feed_dec s c w hT hm hs hg hd
      · rw [if_neg hd]
        have h1 := fun (hl : (Dec.feed1 ⟨#[]⟩ c).2.length ≤ 1) => feed_rec s c w hT hm hs hg hd _ _ hl h0
        rw [Dec.feed1_zero] at h1
        cases hg0 : Dec.begB (⟨#[]⟩ ++ ⟨#[c]⟩) with
        | true =>
          rw [if_pos rfl]
          rw [hg0, if_pos rfl] at h1
          exact h1 (by simp)
        | false =>
          rw [if_neg (by simp)]
          rw [hg0, if_neg (by simp)] at h1
          exact h1 (by simp)
  | false =>
    rw [if_neg (by simp), Dec.feed1_zero]
    cases hg : Dec.begB (⟨#[]⟩ ++ ⟨#[c]⟩) with
    | true =>
      rw [if_pos rfl]
      exact (feed_beg_ins s c w hT hs hg).mono fun e w' ⟨h1, h2⟩ => ⟨_, h1, own_nil _ _, h2⟩
    | false =>
      rw [if_neg (by simp)]
      exact feed_dec_ins s c w hT hs hg
end Go.Proofs.YtiidjkhkcckmkaaGreatDoor.Tx

