/- The contract of layer 1's Text, for layers above (slices of whole numbers as G2 has them). -/
import Derived.Test.YtconccgfhdmafaaA0
import Derived.Test.YtconccgfhdmafaaM2
import Derived.Test.YtconccgfhdmafaaB1
import Derived.Test.YtconccgfhdmafaaBasP
namespace Go.Proofs.Ytconccgfhdmafaa.Tx
set_option linter.unusedSimpArgs false
set_option linter.unusedVariables false
open Go.RowKit Go.Lib

set_option maxHeartbeats 400000 in
theorem written_any (r : Int) (w : World) :
    Calls Try.prog 29 #[.int .i64 r] w fun e w' => e = .returned (.int .i32 (Dec.fix r)) ∧ w = w' := by
  cases hg : Dec.goodB r with
  | true =>
    have hr : 0 ≤ r ∧ r ≤ 1114111 := by unfold Dec.goodB at hg; grind
    obtain ⟨h0, h1⟩ := hr
    have H := Lib.hid hg
    clear hg
    go_enter Try.func29, Try.ntmps29
    go_wp2_with (go_at_call 42; refine (good_any _ _).mono ?_; rintro e w1 ⟨rfl, rfl⟩; rw [H.out])
    go_ret
    exact ⟨by unfold Dec.fix; rw [H.out]; rfl, rfl⟩
  | false =>
    have H := Lib.hid hg
    clear hg
    go_enter Try.func29, Try.ntmps29
    go_wp2_with (go_at_call 42; refine (good_any _ _).mono ?_; rintro e w1 ⟨rfl, rfl⟩; rw [H.out])
    go_ret
    exact ⟨by unfold Dec.fix; rw [H.out]; rfl, rfl⟩

def TextRel (w : World) (l : List Int) (k : Nat) (wr : World) : Prop :=
  Lib.IsBuilder 49 5 w.heap.size w.heap.size (Lib.byteCells (Dec.textL (l.take k))) wr ∧ Below w.heap.size w wr

theorem textRel_start (w : World) (l : List Int) : TextRel w l 0 (w.alloc (.cells #[.pointer none, .slice none 0 0] 49)) := by
  refine ⟨.inl ⟨Nat.le_refl _, .slice none 0 0, heap_alloc_new w _, World.ownsRow_nil _ _ _ _, by simp [Value.ownBlock]⟩, (Below.refl _ _).alloc (Nat.le_refl _) _⟩

theorem textRel_step {w w3 : World} {l : List Int} {k : Nat} {r : Int} (hk : k < l.length) (hr : l[k] = r)
    (h1 : Lib.BuilderAt 49 5 w.heap.size w.heap.size (.pointer (some ⟨w.heap.size, 0, none⟩)) (Lib.byteCells (Dec.textL (l.take k)) ++ Lib.runeCells (Dec.fix r)) w3) (h3 : Below w.heap.size w w3) : TextRel w l (k + 1) w3 := by
  refine ⟨.inr ?_, h3⟩
  rw [List.take_succ_eq_append_getElem hk, hr, Dec.textL_snoc, Lib.byteCells_append, Lib.byteCells_encodeRune]
  exact h1

set_option maxHeartbeats 800000 in
theorem text_some (b off cap : Nat) (l : List Int) (w : World) (hlen : l.length ≤ 100000) (hb : b < w.heap.size) (hc : ∀ i (h : i < l.length), w.cell? ⟨b, off + i, none⟩ = some (.int .i64 l[i])) :
    Calls Try.prog 18 #[.slice (some ⟨b, off, none⟩) l.length cap] w fun e w' => e = .returned (.string ⟨(Dec.textL l).toArray⟩) ∧ Below w.heap.size w w' := by
  have hc' := Lib.hid hc
  clear hc
  go_enter Try.func18, Try.ntmps18
  go_wp2_with fail
  go_loopw [8] (fun i wr => ∃ k : Nat, k ≤ l.length ∧ i = .int .i64 k ∧ TextRel w l k wr) (fun i _ => l.length - (RowKit.intOf i).toNat)
  case atStart => exact ⟨0, Nat.zero_le _, rfl, textRel_start w l⟩
  case round =>
    obtain ⟨k, hk, rfl, hr⟩ := hrel
    obtain ⟨hbl, hbel⟩ := hr
    by_cases hlt : k < l.length
    · obtain ⟨r, hrr⟩ : ∃ r, l[k] = r := ⟨_, rfl⟩
      have hcell : wr.cell? ⟨b, off + k, none⟩ = some (.int .i64 r) := by
        rw [hbel.cell hb, ← hrr]
        exact hc'.out k hlt
      have hrr := Lib.hid hrr
      have hbl := Lib.hid hbl
      have htl := Dec.textL_len (l.take k)
      have htk := List.length_take_le k l
      obtain ⟨hf0, hf1⟩ := Dec.fix_range r
      go_wp2_with fail
      refine (written_any r wr).mono ?_
      rintro e w1 ⟨rfl, rfl⟩
      go_wp2_with fail
      refine (writeRune_any w.heap.size w.heap.size _ (Dec.fix r) hf0 hf1 wr hbl.out (by rw [Lib.byteCells_length]; omega) hbel.size).mono ?_
      rintro e w2 ⟨rfl, hb2, hbe2⟩
      have hb2 := Lib.hid hb2
      have hbel2 := hbel.trans hbe2
      clear htl htk hf0 hf1 hcell hbe2
      go_wp2_with fail
      go_roundw
      case rel => exact ⟨k + 1, by omega, by go_num, textRel_step hlt hrr.out hb2.out hbel2⟩
      case measure => simp [RowKit.intOf]; omega
    · have hbl := Lib.hid hbl
      have hkk : k = l.length := by omega
      have hkk := Lib.hid hkk
      go_wp2_with fail
      refine (Try.Builder_String_any w.heap.size w.heap.size _ wr hbl.out hbel.size).mono ?_
      rintro e w2 ⟨rfl, hbe2⟩
      have hbel2 := hbel.trans hbe2
      clear hbe2
      go_wp2_with fail
      go_ret
      exact ⟨rfl, hbel2⟩

/-- of an empty slice -/
theorem text_none (ap : Option Addr) (ac : Nat) (w : World) :
    Calls Try.prog 18 #[.slice ap 0 ac] w fun e w' => e = .returned (.string ⟨(Dec.textL []).toArray⟩) ∧ Below w.heap.size w w' := by
  have hr := textRel_start w []
  obtain ⟨hbl, hbel⟩ := hr
  have hbl := Lib.hid hbl
  go_enter Try.func18, Try.ntmps18
  go_wp2_with fail
  refine wp_loop_rounds 1 ?_
  rw [rounds_succ]
  go_wp2_with fail
  refine (Try.Builder_String_any w.heap.size w.heap.size _ _ hbl.out hbel.size).mono ?_
  rintro e w2 ⟨rfl, hbe2⟩
  have hbel2 := hbel.trans hbe2
  clear hbe2
  go_wp2_with fail
  go_ret
  exact ⟨rfl, hbel2⟩

/-- Text, of whatever numbers (no more than a hundred thousand). -/
theorem text_any (v : Value) (l : List Int) (w : World) (hlen : l.length ≤ 100000) (hb : RI w v l) :
    Calls Try.prog 18 #[v] w fun e w' => e = .returned (.string ⟨(Dec.textL l).toArray⟩) ∧ Below w.heap.size w w' := by
  rcases hb with ⟨rfl, rfl⟩ | ⟨p, cap, rfl, _, hp⟩
  · exact text_none none 0 w
  · cases l with
    | nil => exact text_none (some p) cap w
    | cons c l =>
      obtain ⟨b, off, rfl, h1, h2⟩ := hp (by simp)
      exact text_some b off cap (c :: l) w hlen h1 h2

end Go.Proofs.Ytconccgfhdmafaa.Tx
