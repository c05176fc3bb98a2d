/- Layer 1: what the program's calls come to, of lists, in the document's words. -/
import Derived.Test.YtcchcgllgodkhaaDoorRA8
namespace Go.Proofs.YtcchcgllgodkhaaDoor
open Go.RowKit Go.Lib

theorem below_trans0 {w w1 w2 : World} (h1 : Below w.heap.size w w1) (h2 : Below w1.heap.size w1 w2) : Below w.heap.size w w2 := h1.trans (h2.mono h1.size)

theorem below_drew (w : World) : Below w.heap.size w w.drew := (Below.refl _ _).drew

theorem list_eta {s : ByteArray} {l : List UInt8} (h : s.data.toList = l) : s = ⟨l.toArray⟩ := by rw [← h]

theorem dsane_any (s : ByteArray) (l : List UInt8) (hl : s.data.toList = l) (w : World) (hT : Lib.Utf8Tabs 0 1 w) : Calls Tryd.prog 9 #[.agg #[.string s]] w (BoolRes (Dec.saneL l) w) := by
  have h := sane_any s w hT
  rw [list_eta hl, Dec.saneB_eq] at h
  rw [list_eta hl]
  exact h

theorem dfeed_any (s : ByteArray) (l : List UInt8) (hl : s.data.toList = l) (c : UInt8) (w : World) (hT : Lib.Utf8Tabs 0 1 w) : Calls Tryd.prog 7 #[.agg #[.string s], .int .u8 c.toNat] w (RFeedRes (Dec.feedL l c).1 (Dec.feedL l c).2 w) := by
  refine (feed_any s c w hT).mono ?_
  rintro e w' ⟨v, rfl, hown, hb⟩
  rw [list_eta hl, Dec.feed_eq] at hown ⊢
  exact ⟨_, v, rfl, rfl, hown, hb⟩

theorem dend_any (s : ByteArray) (l : List UInt8) (hl : s.data.toList = l) (w : World) (hT : Lib.Utf8Tabs 0 1 w) : Calls Tryd.prog 12 #[.agg #[.string s]] w (IntsRes (Dec.endLL l) w) := by
  refine (end_any s w hT).mono ?_
  rintro e w' ⟨v, rfl, hown, hb⟩
  rw [list_eta hl, Dec.begB_eq] at hown
  exact ⟨v, rfl, hown, hb⟩

theorem dall_any (v : Value) (bs : List UInt8) (w : World) (hT : Lib.Utf8Tabs 0 1 w) (hlen : bs.length ≤ 1000) (hb : RBytes w v bs) : Calls Tryd.prog 14 #[v] w (IntsRes (Dec.allLL bs) w) := by
  refine (all_any v bs w hT (by omega) hb).mono ?_
  rintro e w' ⟨v, rfl, hown, hb⟩
  rw [Dec.allL_eq] at hown
  exact ⟨v, rfl, own_mono hown (by omega), hb⟩

theorem dtext_any (v : Value) (l : List Int) (w : World) (hlen : l.length ≤ 1000) (hb : RInts w v l) : Calls Tryd.prog 16 #[v] w (TextRes (Dec.textL l) w) := text_any v l w (by omega) hb

/-- Same, of what is the same -/
def SameYes (w : World) (e : Ending) (w' : World) : Prop := e = .returned (.bool true) ∧ ∃ n, w' = w.drewN n

theorem same_yes (v1 v2 : Value) (l : List Int) (w : World) (hl : l.length ≤ 100000) (h1 : RInts w v1 l) (h2 : RInts w v2 l) : Calls Tryd.prog 11 #[v1, v2] w (SameYes w) := by
  refine (same_any v1 v2 l l w hl h1 h2).mono ?_
  rintro e w' ⟨rfl, h⟩
  exact ⟨by rw [show sameB l l = true from decide_eq_true rfl], h⟩

theorem all_len (bs : List UInt8) (h : bs.length ≤ 1000) : (Dec.allLL bs).length ≤ 100000 := by
  unfold Dec.allLL
  have h1 := runL_take_len bs bs.length
  rw [List.take_length] at h1
  have h2 : (Dec.endLL (Dec.runL [] bs).1).length ≤ 1 := by unfold Dec.endLL; split <;> simp
  rw [List.length_append]
  omega

/-- four cells read as they read -/
theorem four_below {w w1 : World} {a b c d : Addr} {u v x y : Value} (h : w.cell? a = some u ∧ w.cell? b = some v ∧ w.cell? c = some x ∧ w.cell? d = some y) (hb : Below w.heap.size w w1) : w1.cell? a = some u ∧ w1.cell? b = some v ∧ w1.cell? c = some x ∧ w1.cell? d = some y :=
  ⟨by rw [hb.cell (World.block_lt_of_cell? _ _ h.1)]; exact h.1, by rw [hb.cell (World.block_lt_of_cell? _ _ h.2.1)]; exact h.2.1, by rw [hb.cell (World.block_lt_of_cell? _ _ h.2.2.1)]; exact h.2.2.1, by rw [hb.cell (World.block_lt_of_cell? _ _ h.2.2.2)]; exact h.2.2.2⟩

set_option maxHeartbeats 1600000 in
theorem decIs_long (s : ByteArray) (c : Int) (p1 : Option Addr) (n1 c1 : Nat) (p2 : Option Addr) (n2 c2 : Nat) (w : World) (hT : Lib.Utf8Tabs 0 1 w) (h : 100 < s.size ∨ 400 < n1 ∨ 200 < n2) :
    Calls Tryd.prog 3 #[.agg #[.string s], .int .u8 c, .slice p1 n1 c1, .slice p2 n2 c2] w (BoolRes true w) := by
  replace hT := Lib.hid hT
  have haw := Lib.hid (awake_any (w.alloc (.cells #[.string s] 23)) (tabs_alloc hT.out _))
  by_cases h1 : 100 < s.size
  · have h1' : (100 : Int) < (s.size : Int) := by omega
    clear h h1
    go_enter Tryd.func3, Tryd.ntmps3
    go_wp2_with fail
    refine haw.out.mono ?_
    rintro e w1 ⟨rfl, hb1⟩
    obtain ⟨z0, q0, r0⟩ := box_below (box_new w (.string s) _) hb1
    replace hb1 := Lib.hid (below_in hb1)
    go_wp2_with fail
    go_ret
    exact ⟨rfl, hb1.out⟩
  · have h1' : decide ((100 : Int) < (s.size : Int)) = false := by simp; omega
    by_cases h2 : 400 < n1
    · have h2' : (400 : Int) < (n1 : Int) := by omega
      clear h h1 h2
      go_enter Tryd.func3, Tryd.ntmps3
      go_wp2_with fail
      refine haw.out.mono ?_
      rintro e w1 ⟨rfl, hb1⟩
      obtain ⟨z0, q0, r0⟩ := box_below (box_new w (.string s) _) hb1
      replace hb1 := Lib.hid (below_in hb1)
      go_wp2_with fail
      go_ret
      exact ⟨rfl, hb1.out⟩
    · have h2' : decide ((400 : Int) < (n1 : Int)) = false := by simp; omega
      have h3' : (200 : Int) < (n2 : Int) := by omega
      clear h h1 h2
      go_enter Tryd.func3, Tryd.ntmps3
      go_wp2_with fail
      refine haw.out.mono ?_
      rintro e w1 ⟨rfl, hb1⟩
      obtain ⟨z0, q0, r0⟩ := box_below (box_new w (.string s) _) hb1
      replace hb1 := Lib.hid (below_in hb1)
      go_wp2_with fail
      go_ret
      exact ⟨rfl, hb1.out⟩
end Go.Proofs.YtcchcgllgodkhaaDoor
