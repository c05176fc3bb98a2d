/- The contracts of layer 1's functions begins, Sane, written and End. -/
import Derived.Test.YtcchcgllgodkhaaDoorA1
namespace Go.Proofs.YtcchcgllgodkhaaDoor
open Go.RowKit Go.Lib

/-- the slice value v is the call's own (from block B on), and holds these numbers -/
def Own (B : Nat) (v : Value) (l : List Int) (w : World) : Prop := w.ownsRow B 3 1 v l.length (l.map (Value.int .i64))

theorem own_nil (B : Nat) (w : World) : Own B (.slice none 0 0) [] w := World.ownsRow_nil w B 3 1

theorem own_one (B : Nat) (x : Int) (w : World) (hB : B ≤ w.heap.size) : Own B (.slice (some ⟨w.heap.size, 0, none⟩) 1 1) [x] (w.alloc (.cells #[.int .i64 x] 3)) :=
  ⟨rfl, .inr ⟨w.heap.size, 1, #[.int .i64 x], rfl, hB, heap_alloc_new w _, Nat.le_refl _, by decide, rfl, rfl⟩⟩

theorem empty_of_size {s : ByteArray} (h : s.size = 0) : s.toList.isEmpty = true := by
  rw [Lib.toList_data]
  cases s with
  | mk d =>
    have h' : d.size = 0 := h
    simpa using h'

theorem nonempty_of_size {s : ByteArray} (h : ¬ s.size = 0) : s.toList.isEmpty = false := by
  rw [Lib.toList_data]
  cases s with
  | mk d =>
    have h' : ¬ d.size = 0 := h
    simpa using h'

set_option maxHeartbeats 400000 in
theorem begins_any (s : ByteArray) (w : World) (hT : Lib.Utf8Tabs 0 1 w) :
    Calls Tryd.prog 18 #[.string s] w fun e w' => e = .returned (.bool (Dec.begB s)) ∧ Below w.heap.size w w' := by
  by_cases h0 : s.size = 0
  · have hs := empty_of_size h0
    have hres : Dec.begB s = false := by simp [Dec.begB, h0]
    have hres := Lib.hid hres
    clear h0
    go_enter Tryd.func18, Tryd.ntmps18
    go_wp2_with fail
    go_ret
    exact ⟨ret_bool hres.out.symm, Below.refl _ _⟩
  · have hs := nonempty_of_size h0
    have H := Lib.hid h0
    clear h0
    go_enter Tryd.func18, Tryd.ntmps18
    go_wp2_with (go_at_call 26; refine (full_any s _ hT).mono ?_; rintro e w1 ⟨rfl, hb1⟩)
    go_ret
    exact ⟨ret_bool (by simp [Dec.begB, H.out]), hb1⟩

set_option maxHeartbeats 400000 in
theorem written_any (r : Int) (w : World) :
    Calls Tryd.prog 23 #[.int .i64 r] w fun e w' => e = .returned (.int .i32 (Dec.fix r)) ∧ w = w' := by
  cases hg : Dec.goodB r with
  | true =>
    have hr : 0 ≤ r ∧ r ≤ 1114111 := by unfold Dec.goodB at hg; grind
    obtain ⟨h0, h1⟩ := hr
    have H := Lib.hid hg
    clear hg
    go_enter Tryd.func23, Tryd.ntmps23
    go_wp2_with (go_at_call 5; refine (good_any _ _).mono ?_; rintro e w1 ⟨rfl, rfl⟩; rw [H.out])
    go_ret
    exact ⟨by unfold Dec.fix; rw [H.out]; rfl, rfl⟩
  | false =>
    have H := Lib.hid hg
    clear hg
    go_enter Tryd.func23, Tryd.ntmps23
    go_wp2_with (go_at_call 5; refine (good_any _ _).mono ?_; rintro e w1 ⟨rfl, rfl⟩; rw [H.out])
    go_ret
    exact ⟨by unfold Dec.fix; rw [H.out]; rfl, rfl⟩


theorem tabs_alloc {w : World} (hT : Lib.Utf8Tabs 0 1 w) (o : Obj) : Lib.Utf8Tabs 0 1 (w.alloc o) := Utf8Tabs_below hT ((Below.refl _ _).alloc (Nat.le_refl _) _)

set_option maxHeartbeats 400000 in
theorem sane_any (s : ByteArray) (w : World) (hT : Lib.Utf8Tabs 0 1 w) :
    Calls Tryd.prog 9 #[.agg #[.string s]] w fun e w' => e = .returned (.bool (Dec.saneB s)) ∧ Below w.heap.size w w' := by
  by_cases h0 : s.size = 0
  · have hs := empty_of_size h0
    have hres : Dec.saneB s = true := by simp [Dec.saneB, h0]
    have hres := Lib.hid hres
    clear h0
    go_enter Tryd.func9, Tryd.ntmps9
    go_wp2_with fail
    go_ret
    exact ⟨ret_bool hres.out.symm, (Below.refl _ _).alloc (Nat.le_refl _) _⟩
  · have hs := nonempty_of_size h0
    have H := Lib.hid h0
    clear h0
    go_enter Tryd.func9, Tryd.ntmps9
    go_wp2_with (go_at_call 18; refine (begins_any s _ (tabs_alloc hT _)).mono ?_; rintro e w1 ⟨rfl, hb1⟩)
    go_ret
    exact ⟨ret_bool (by simp [Dec.saneB, H.out]), below_in hb1⟩

/- what End tells -/
set_option maxHeartbeats 400000 in
theorem end_any (s : ByteArray) (w : World) (hT : Lib.Utf8Tabs 0 1 w) :
    Calls Tryd.prog 12 #[.agg #[.string s]] w fun e w' => ∃ v, e = .returned v ∧ Own w.heap.size v (if Dec.begB s then [65533] else []) w' ∧ Below w.heap.size w w' := by
  cases hg : Dec.begB s with
  | true =>
    have H := Lib.hid hg
    clear hg
    go_enter Tryd.func12, Tryd.ntmps12
    go_wp2_with (go_at_call 18; refine (begins_any s _ (tabs_alloc hT _)).mono ?_; rintro e w1 ⟨rfl, hb1⟩; rw [H.out])
    go_ret
    have hb2 := below_in hb1
    exact ⟨_, rfl, own_one _ _ _ hb2.size, hb2.alloc hb2.size _⟩
  | false =>
    have H := Lib.hid hg
    clear hg
    go_enter Tryd.func12, Tryd.ntmps12
    go_wp2_with (go_at_call 18; refine (begins_any s _ (tabs_alloc hT _)).mono ?_; rintro e w1 ⟨rfl, hb1⟩; rw [H.out])
    go_ret
    exact ⟨_, rfl, own_nil _ _, below_in hb1⟩

end Go.Proofs.YtcchcgllgodkhaaDoor
