/- The contract of layer 1's Feed, on: of a state that may not be; and all of it in one. -/
import Derived.Test.YtcchcgllgodkhaaDoorA3
namespace Go.Proofs.YtcchcgllgodkhaaDoor
open Go.RowKit Go.Lib

theorem run_bytes1_set (c : UInt8) (W : World) (a : Addr) (u : Value) : (convert 24 9 (.slice (some ⟨W.heap.size, 0, none⟩) 1 1)).run Tryd.prog ((W.setCell a u).alloc (.cells #[.int .u8 c.toNat] 5)) = .ok (.string ⟨#[c]⟩) ((W.setCell a u).alloc (.cells #[.int .u8 c.toNat] 5)) := by
  have h := run_bytes1 c (W.setCell a u)
  rw [show (W.setCell a u).heap.size = W.heap.size from by simp] at h
  exact h

theorem box_set' {w : World} {k : Nat} {v : Value} (h : Box w k v) (a : Addr) (u : Value) (hne : a.block ≠ k) : Box (w.setCell a u) k v := by
  obtain ⟨h0, h1, h2⟩ := h
  refine ⟨by simpa using h0, ?_, by rw [World.frozen?_setCell]; exact h2⟩
  rw [World.cell?_setCell_other]
  · exact h1
  · intro e
    exact hne (by rw [e])

theorem below_stepB {w w1 w2 : World} {o3 : Obj} (hb1 : Below w.heap.size w w1) (hb2 : Below (w1.alloc o3).heap.size (w1.alloc o3) w2) : Below w.heap.size w w2 := below_step hb1 hb2

set_option maxHeartbeats 400000 in
theorem feed_beg_ins (s : ByteArray) (c : UInt8) (w : World) (hT : Lib.Utf8Tabs 0 1 w) (hs : Dec.saneB s = false) (hg : Dec.begB (⟨#[]⟩ ++ ⟨#[c]⟩) = true) :
    Calls Tryd.prog 7 #[.agg #[.string s], .int .u8 c.toNat] w fun e w' => e = .returned (.tuple #[.agg #[.string (⟨#[]⟩ ++ ⟨#[c]⟩)], .slice none 0 0]) ∧ Below w.heap.size w w' := by
  have H := Lib.hid hs
  have hcv := run_bytes1_set c
  have hsz : ((⟨#[]⟩ : ByteArray) ++ ⟨#[c]⟩).size = 1 := Dec.size_one c
  obtain ⟨b, hb⟩ : ∃ b, (⟨#[]⟩ : ByteArray) ++ (⟨#[c]⟩ : ByteArray) = b := ⟨_, rfl⟩
  rw [hb] at hg hsz ⊢
  have G := Lib.hid hg
  clear hs hg
  have hsz1 : b.size ≤ 4 := by omega
  clear hsz
  go_enter Tryd.func7, Tryd.ntmps7
  go_wp2_with fail
  refine (sane_any s _ (tabs_alloc (tabs_alloc hT _) _)).mono ?_
  rintro e w1 ⟨rfl, hb1⟩
  obtain ⟨z0, q0, r0⟩ := box_below (box_alloc (box_new w (.string s) 28) _) hb1
  have hx1 := box_below (box_new (w.alloc (Obj.cells #[Value.string s] 28)) (.string { data := #[] }) 28) hb1
  simp only [World.size_alloc] at hx1
  have X1 := Lib.hid (box_alloc (box_set' hx1 ⟨w.heap.size, 0, none⟩ (.string { data := #[] }) (by simp)) (.cells #[.int .u8 c.toNat] 5))
  have hb2 := (below_two hb1).setCell (p := ⟨w.heap.size, 0, none⟩) (Nat.le_refl _) (.string { data := #[] })
  clear hx1
  rw [H.out]
  go_wp2_with fail
  refine (begins_any b _ (tabs_alloc (Utf8Tabs_below hT hb2) _)).mono ?_
  rintro e w2 ⟨rfl, hb3⟩
  have hb4 := below_step hb2 hb3
  have hx2 := box_below X1.out hb3
  rw [G.out]
  obtain ⟨z1, q1, r1⟩ := hx2
  clear hT
  go_wp2_with fail
  refine bodyPost_ret (v := .tuple #[.agg #[.string b], .slice none 0 0]) (by simp [results, Tryd.results7, go_sem, q1]) rfl ⟨rfl, ?_⟩
  exact hb4.setCell (by simp) _

set_option maxHeartbeats 400000 in
theorem feed_dec_ins (s : ByteArray) (c : UInt8) (w : World) (hT : Lib.Utf8Tabs 0 1 w) (hs : Dec.saneB s = false) (hg : Dec.begB (⟨#[]⟩ ++ ⟨#[c]⟩) = false) :
    Calls Tryd.prog 7 #[.agg #[.string s], .int .u8 c.toNat] w fun e w' => ∃ v, e = .returned (.tuple #[.agg #[.string ⟨#[]⟩], v]) ∧ Own w.heap.size v [((Lib.decodeGo (⟨#[]⟩ ++ ⟨#[c]⟩)).1 : Int)] w' ∧ Below w.heap.size w w' := by
  have hd := Dec.decodeGo_one c
  have H := Lib.hid hs
  have hcv := run_bytes1_set c
  have hsz : ((⟨#[]⟩ : ByteArray) ++ ⟨#[c]⟩).size = 1 := Dec.size_one c
  obtain ⟨b, hb⟩ : ∃ b, (⟨#[]⟩ : ByteArray) ++ (⟨#[c]⟩ : ByteArray) = b := ⟨_, rfl⟩
  rw [hb] at hg hsz hd ⊢
  have G := Lib.hid hg
  have e1 := beq_nat_int (hd.trans hsz.symm)
  have hr := Dec.decodeGo_range b
  clear hs hg hd
  obtain ⟨r, hr0⟩ : ∃ r, (Lib.decodeGo b).1 = r := ⟨_, rfl⟩
  obtain ⟨n, hn0⟩ : ∃ n, (Lib.decodeGo b).2 = n := ⟨_, rfl⟩
  rw [hr0] at hr ⊢
  rw [hn0] at e1
  have hsz1 : b.size ≤ 4 := by omega
  clear hsz
  go_enter Tryd.func7, Tryd.ntmps7
  go_wp2_with fail
  refine (sane_any s _ (tabs_alloc (tabs_alloc hT _) _)).mono ?_
  rintro e w1 ⟨rfl, hb1⟩
  obtain ⟨z0, q0, r0⟩ := box_below (box_alloc (box_new w (.string s) 28) _) hb1
  have hx1 := box_below (box_new (w.alloc (Obj.cells #[Value.string s] 28)) (.string { data := #[] }) 28) hb1
  simp only [World.size_alloc] at hx1
  have X1 := Lib.hid (box_alloc (box_set' hx1 ⟨w.heap.size, 0, none⟩ (.string { data := #[] }) (by simp)) (.cells #[.int .u8 c.toNat] 5))
  have hb2 := (below_two hb1).setCell (p := ⟨w.heap.size, 0, none⟩) (Nat.le_refl _) (.string { data := #[] })
  clear hx1
  rw [H.out]
  go_wp2_with fail
  refine (begins_any b _ (tabs_alloc (Utf8Tabs_below hT hb2) _)).mono ?_
  rintro e w2 ⟨rfl, hb3⟩
  have hb4 := below_step hb2 hb3
  have hx2 := box_below X1.out hb3
  rw [G.out]
  have X2 := Lib.hid hx2
  clear hx2 z0 q0 r0
  go_wp2_with fail
  refine (Tryd.utf8_DecodeRuneInString b _ (Utf8Tabs_below hT hb4)).mono ?_
  rintro e w3 ⟨rfl, hb5⟩
  obtain ⟨z1, q1, r1⟩ := box_below X2.out hb5
  have hb6 := hb4.trans (hb5.mono hb4.size)
  rw [hr0, hn0]
  clear hT hr0 hn0 hb
  go_wp2_with fail
  refine bodyPost_ret (v := .tuple #[.agg #[.string ⟨#[]⟩], _]) (by simp [results, Tryd.results7, go_sem, q1, z1]; rfl) rfl ⟨_, rfl, ?_, ?_⟩
  · exact own_one_at _ _ _ _ (by simp) (by have := hb6.size; simp; omega)
  · exact (hb6.setCell (by simp) _).alloc (by have := hb6.size; simp; omega) _

theorem fullN_big (n b0 b1 b2 : Nat) (h : 4 ≤ n) : Dec.fullN n b0 b1 b2 = true := by
  have h1 : Lib.firstT b0 % 8 ≤ n := by
    rcases Lib.firstT_cases b0 with hX | hX | hX | hX | hX | hX | hX | hX | hX <;> rw [hX] <;> omega
  have h2 : n ≠ 0 := by omega
  simp [Dec.fullN, h1, h2]

theorem begB_size {s : ByteArray} (h : Dec.begB s = true) : s.size ≤ 3 := by
  rcases Nat.lt_or_ge 3 s.size with h3 | h3
  · have hf : Dec.fullB s = true := fullN_big _ _ _ _ h3
    simp [Dec.begB, hf] at h
  · exact h3

theorem saneB_size {s : ByteArray} (h : Dec.saneB s = true) : s.size ≤ 3 := by
  unfold Dec.saneB at h
  rcases Bool.or_eq_true _ _ ▸ h with h | h
  · have := of_decide_eq_true h
    omega
  · exact begB_size h

/-- Feed, whatever it is given. -/
theorem feed_any (s : ByteArray) (c : UInt8) (w : World) (hT : Lib.Utf8Tabs 0 1 w) :
    Calls Tryd.prog 7 #[.agg #[.string s], .int .u8 c.toNat] w fun e w' => ∃ v, e = .returned (.tuple #[.agg #[.string (Dec.feed s c).1], v]) ∧ Own w.heap.size v (Dec.feed s c).2 w' ∧ Below w.heap.size w w' := by
  have h0 : ∀ w, Lib.Utf8Tabs 0 1 w → Calls Tryd.prog 7 #[.agg #[.string ⟨#[]⟩], .int .u8 c.toNat] w fun e w' => ∃ v, e = .returned (.tuple #[.agg #[.string (Dec.feed1 ⟨#[]⟩ c).1], v]) ∧ Own w.heap.size v (Dec.feed1 ⟨#[]⟩ c).2 w' ∧ Below w.heap.size w w' := by
    intro w hT
    rw [Dec.feed1_zero]
    cases hg : Dec.begB (⟨#[]⟩ ++ ⟨#[c]⟩) with
    | true =>
      rw [if_pos rfl]
      exact (feed_beg ⟨#[]⟩ c w hT (by decide) Dec.saneB_zero hg).mono fun e w' ⟨h1, h2⟩ => ⟨_, h1, own_nil _ _, h2⟩
    | false =>
      rw [if_neg (by simp)]
      exact feed_dec ⟨#[]⟩ c w hT (by decide) Dec.saneB_zero hg (by rw [Dec.decodeGo_one, Dec.size_one])
  unfold Dec.feed
  cases hs : Dec.saneB s with
  | true =>
    rw [if_pos rfl]
    have hm := saneB_size hs
    unfold Dec.feed1
    cases hg : Dec.begB (s ++ ⟨#[c]⟩) with
    | true =>
      rw [if_pos rfl]
      exact (feed_beg s c w hT hm hs hg).mono fun e w' ⟨h1, h2⟩ => ⟨_, h1, own_nil _ _, h2⟩
    | false =>
      rw [if_neg (by simp)]
      by_cases hd : (Lib.decodeGo (s ++ ⟨#[c]⟩)).2 = (s ++ ⟨#[c]⟩).size
      · rw [if_pos hd]
        exact feed_dec s c w hT hm hs hg hd
      · rw [if_neg hd]
        have h1 := fun (hl : (Dec.feed1 ⟨#[]⟩ c).2.length ≤ 1) => feed_rec s c w hT hm hs hg hd _ _ hl h0
        rw [Dec.feed1_zero] at h1
        cases hg0 : Dec.begB (⟨#[]⟩ ++ ⟨#[c]⟩) with
        | true =>
          rw [if_pos rfl]
          rw [hg0, if_pos rfl] at h1
          exact h1 (by simp)
        | false =>
          rw [if_neg (by simp)]
          rw [hg0, if_neg (by simp)] at h1
          exact h1 (by simp)
  | false =>
    rw [if_neg (by simp), Dec.feed1_zero]
    cases hg : Dec.begB (⟨#[]⟩ ++ ⟨#[c]⟩) with
    | true =>
      rw [if_pos rfl]
      exact (feed_beg_ins s c w hT hs hg).mono fun e w' ⟨h1, h2⟩ => ⟨_, h1, own_nil _ _, h2⟩
    | false =>
      rw [if_neg (by simp)]
      exact feed_dec_ins s c w hT hs hg

end Go.Proofs.YtcchcgllgodkhaaDoor
