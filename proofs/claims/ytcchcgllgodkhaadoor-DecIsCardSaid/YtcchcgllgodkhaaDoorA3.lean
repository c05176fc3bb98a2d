/- The contract of layer 1's Feed. -/
import Derived.Test.YtcchcgllgodkhaaDoorA2
import Derived.Test.YtcchcgllgodkhaaDoorM2
import Derived.Test.YtcchcgllgodkhaaDoorK1
namespace Go.Proofs.YtcchcgllgodkhaaDoor
open Go.RowKit Go.Lib

/-- a block of one cell, in a world -/
def Box (w : World) (k : Nat) (v : Value) : Prop := k < w.heap.size ∧ w.cell? ⟨k, 0, none⟩ = some v ∧ w.frozen? ⟨k, 0, none⟩ = false

theorem box_new (w : World) (v : Value) (T : TypeId) : Box (w.alloc (.cells #[v] T)) w.heap.size v := by
  refine ⟨by simp, ?_, ?_⟩
  · simp
  · simp

theorem box_alloc {w : World} {k : Nat} {v : Value} (h : Box w k v) (o : Obj) : Box (w.alloc o) k v := by
  obtain ⟨h0, h1, h2⟩ := h
  exact ⟨by simp; omega, by rw [World.cell?_alloc_lt _ _ _ h0]; exact h1, by rw [World.frozen?_alloc_past _ _ _ h0]; exact h2⟩

theorem box_below {w w1 : World} {k : Nat} {v : Value} (h : Box w k v) (hb : Below w.heap.size w w1) : Box w1 k v := by
  obtain ⟨h0, h1, h2⟩ := h
  have := hb.size
  exact ⟨by omega, by rw [hb.cell h0]; exact h1, by rw [hb.frozen h0]; exact h2⟩

theorem box_grown {w w1 : World} {k : Nat} {v : Value} {row : Option Nat} (h : Box w k v) (hg : w.drew.grownBy w1 row) (hne : some k ≠ row) : Box w1 k v := by
  obtain ⟨h0, h1, h2⟩ := h
  have hb := hg.block k h0 hne
  have := hg.size
  exact ⟨Nat.lt_of_lt_of_le h0 this, by rw [World.cell?_of_block (w := w) hb]; exact h1, by rw [World.frozen?_of_block (w := w) hb]; exact h2⟩

theorem grown_below {B : Nat} {w0 w w1 : World} {k n c : Nat} (h : Below B w0 w) (hg : w.drew.grownBy w1 (Value.slice (some ⟨k, 0, none⟩) n c).ownBlock) (hB : B ≤ w.heap.size) (hk : B ≤ k) : Below B w0 w1 :=
  h.drew.grown hg hB (fun j hj => by simp [Value.ownBlock] at hj; omega)

theorem run_bytes1 (c : UInt8) (W : World) : (convert 24 9 (.slice (some ⟨W.heap.size, 0, none⟩) 1 1)).run Tryd.prog (W.alloc (.cells #[.int .u8 c.toNat] 5)) = .ok (.string ⟨#[c]⟩) (W.alloc (.cells #[.int .u8 c.toNat] 5)) := by
  refine run_convert_bytes_back (P := Tryd.prog) _ 24 9 5 ⟨W.heap.size, 0, none⟩ 1 [c] Tryd.underlying24 Tryd.underlying5 Tryd.underlying9 ?_
  intro j hj
  have : j = 0 := by simpa using hj
  subst this
  simp [Addr.add]

/- the first lines of Feed, of a state that may be: what is known of the world where begins is called -/
theorem feed_tabs {w w1 : World} {o1 o2 o3 : Obj} (hT : Lib.Utf8Tabs 0 1 w) (hb1 : Below ((w.alloc o1).alloc o2).heap.size ((w.alloc o1).alloc o2) w1) : Lib.Utf8Tabs 0 1 (w1.alloc o3) :=
  tabs_alloc (Utf8Tabs_below (tabs_alloc (tabs_alloc hT _) _) hb1) _

theorem below_two {w w1 : World} {o1 o2 : Obj} (hb1 : Below ((w.alloc o1).alloc o2).heap.size ((w.alloc o1).alloc o2) w1) : Below w.heap.size w w1 :=
  (((Below.refl _ _).alloc (Nat.le_refl _) _).alloc (by simp) _).trans (hb1.mono (by simp; omega))

theorem below_step {w w1 w2 : World} {o3 : Obj} (hb1 : Below w.heap.size w w1) (hb2 : Below (w1.alloc o3).heap.size (w1.alloc o3) w2) : Below w.heap.size w w2 :=
  (hb1.alloc hb1.size _).trans (hb2.mono (by have := hb1.size; simp; omega))

set_option maxHeartbeats 400000 in
theorem feed_beg (s : ByteArray) (c : UInt8) (w : World) (hT : Lib.Utf8Tabs 0 1 w) (hm : s.size ≤ 3) (hs : Dec.saneB s = true) (hg : Dec.begB (s ++ ⟨#[c]⟩) = true) :
    Calls Tryd.prog 7 #[.agg #[.string s], .int .u8 c.toNat] w fun e w' => e = .returned (.tuple #[.agg #[.string (s ++ ⟨#[c]⟩)], .slice none 0 0]) ∧ Below w.heap.size w w' := by
  have H := Lib.hid hs
  have hcv := run_bytes1 c
  obtain ⟨b, hb⟩ : ∃ b, s ++ (⟨#[c]⟩ : ByteArray) = b := ⟨_, rfl⟩
  rw [hb] at hg ⊢
  have G := Lib.hid hg
  clear hs hg
  go_enter Tryd.func7, Tryd.ntmps7
  go_wp2_with fail
  refine (sane_any s _ (tabs_alloc (tabs_alloc hT _) _)).mono ?_
  rintro e w1 ⟨rfl, hb1⟩
  obtain ⟨z0, q0, r0⟩ := box_below (box_alloc (box_new w (.string s) 28) _) hb1
  have hx1 := box_below (box_new (w.alloc (Obj.cells #[Value.string s] 28)) (.string { data := #[] }) 28) hb1
  simp only [World.size_alloc] at hx1
  have X1 := Lib.hid hx1
  clear hx1
  rw [H.out]
  go_wp2_with fail
  refine (begins_any b _ (feed_tabs hT hb1)).mono ?_
  rintro e w2 ⟨rfl, hb2⟩
  obtain ⟨z1, q1, r1⟩ := box_below (box_alloc X1.out _) hb2
  have hb3 := below_step (below_two hb1) hb2
  rw [G.out]
  clear hT
  go_wp2_with fail
  refine bodyPost_ret (v := .tuple #[.agg #[.string b], .slice none 0 0]) (by simp [results, Tryd.results7, go_sem, q1]) rfl ⟨rfl, ?_⟩
  exact hb3.setCell (by simp) _

theorem own_one_at (B : Nat) (x : Int) (w : World) (k : Nat) (hk : w.heap.size = k) (hB : B ≤ w.heap.size) : Own B (.slice (some ⟨k, 0, none⟩) 1 1) [x] (w.alloc (.cells #[.int .i64 x] 3)) := by
  subst hk
  exact own_one B x w hB

theorem info_int : (Tryd.prog.info? 3).map (fun i => (i.zero, i.size, i.bytes)) = some (some (.int .i64 0), 1, 8) := by kernel_rfl

theorem own_drew {B : Nat} {v : Value} {l : List Int} {w : World} (h : Own B v l w) : Own B v l w.drew := h

theorem own_alloc {B : Nat} {v : Value} {l : List Int} {w : World} (h : Own B v l w) (o : Obj) : Own B v l (w.alloc o) := World.ownsRow.alloc h o

/-- what an append reads of such a slice -/
theorem own_src {B : Nat} {v : Value} {l : List Int} {w : World} (h : Own B v l w) :
    (v = .slice none 0 0 ∧ l = []) ∨ ∃ g cap, v = .slice (some ⟨g, 0, none⟩) l.length cap ∧ B ≤ g ∧ g < w.heap.size ∧ ∀ j u, (l.map (Value.int .i64))[j]? = some u → w.cell? ((⟨g, 0, none⟩ : Addr).add j) = some u := by
  have hc := fun g hg => World.ownsRow.cells (g := g) h hg
  have hlt := World.ownsRow.lt h
  rcases h.2 with ⟨rfl, hl⟩ | ⟨g, cap, cur, rfl, hB, _⟩
  · exact .inl ⟨rfl, List.eq_nil_of_length_eq_zero hl⟩
  · exact .inr ⟨g, cap, rfl, hB, (hlt g rfl).2, hc g rfl⟩

theorem own_set {B : Nat} {v : Value} {l : List Int} {w : World} (h : Own B v l w) (a : Addr) (u : Value) (hne : v.ownBlock = none ∨ v.ownBlock ≠ some a.block) : Own B v l (w.setCell a u) := by
  refine World.ownsRow.kept (row := some a.block) h ⟨rfl, rfl, rfl, by simp [World.setCell], fun k _ hk => ?_⟩ hne
  exact Below.heap_setCell _ _ _ _ (fun e => hk (by rw [e]))

theorem ne_own {j k n c : Nat} (h : j ≠ k) : some j ≠ (Value.slice (some ⟨k, 0, none⟩) n c).ownBlock := by
  intro e
  exact h (Option.some.inj e)

theorem own_mono {B B' : Nat} {v : Value} {l : List Int} {w : World} (h : Own B' v l w) (hB : B ≤ B') : Own B v l w := by
  refine ⟨h.1, ?_⟩
  rcases h.2 with hn | ⟨g, cap, cur, hv, hg, r⟩
  · exact .inl hn
  · exact .inr ⟨g, cap, cur, hv, Nat.le_trans hB hg, r⟩

theorem own_ne {B k : Nat} {v : Value} {l : List Int} {w : World} (h : Own B v l w) (hk : k < B) : v.ownBlock = none ∨ v.ownBlock ≠ some k := by
  refine .inr fun e => ?_
  have := (World.ownsRow.lt h k e).1
  omega

theorem own_of_row {B n : Nat} {v : Value} {l : List Int} {xs : List Value} {w : World} (h : w.ownsRow B 3 1 v n xs) (hn : n = l.length) (hx : xs = l.map (Value.int .i64)) : Own B v l w := by
  subst hn
  subst hx
  exact h

theorem ints_oneCell (l : List Int) : ∀ u ∈ l.map (Value.int .i64), u.oneCell' = true := by
  intro u hu
  obtain ⟨x, _, rfl⟩ := List.mem_map.1 hu
  rfl


set_option maxHeartbeats 400000 in
theorem feed_dec (s : ByteArray) (c : UInt8) (w : World) (hT : Lib.Utf8Tabs 0 1 w) (hm : s.size ≤ 3) (hs : Dec.saneB s = true) (hg : Dec.begB (s ++ ⟨#[c]⟩) = false) (hd : (Lib.decodeGo (s ++ ⟨#[c]⟩)).2 = (s ++ ⟨#[c]⟩).size) :
    Calls Tryd.prog 7 #[.agg #[.string s], .int .u8 c.toNat] w fun e w' => ∃ v, e = .returned (.tuple #[.agg #[.string ⟨#[]⟩], v]) ∧ Own w.heap.size v [((Lib.decodeGo (s ++ ⟨#[c]⟩)).1 : Int)] w' ∧ Below w.heap.size w w' := by
  have H := Lib.hid hs
  have hcv := run_bytes1 c
  obtain ⟨b, hb⟩ : ∃ b, s ++ (⟨#[c]⟩ : ByteArray) = b := ⟨_, rfl⟩
  rw [hb] at hg hd ⊢
  have G := Lib.hid hg
  have e1 := beq_nat_int hd
  have hr := Dec.decodeGo_range b
  have hsz : b.size ≤ 4 := by rw [← hb, ByteArray.size_append]; show s.size + 1 ≤ 4; omega
  clear hs hg hd
  obtain ⟨r, hr0⟩ : ∃ r, (Lib.decodeGo b).1 = r := ⟨_, rfl⟩
  obtain ⟨n, hn0⟩ : ∃ n, (Lib.decodeGo b).2 = n := ⟨_, rfl⟩
  rw [hr0] at hr ⊢
  rw [hn0] at e1
  go_enter Tryd.func7, Tryd.ntmps7
  go_wp2_with fail
  refine (sane_any s _ (tabs_alloc (tabs_alloc hT _) _)).mono ?_
  rintro e w1 ⟨rfl, hb1⟩
  obtain ⟨z0, q0, r0⟩ := box_below (box_alloc (box_new w (.string s) 28) _) hb1
  have hx1 := box_below (box_new (w.alloc (Obj.cells #[Value.string s] 28)) (.string { data := #[] }) 28) hb1
  simp only [World.size_alloc] at hx1
  have X1 := Lib.hid hx1
  clear hx1
  rw [H.out]
  go_wp2_with fail
  refine (begins_any b _ (feed_tabs hT hb1)).mono ?_
  rintro e w2 ⟨rfl, hb2⟩
  have X2 := Lib.hid (box_below (box_alloc X1.out _) hb2)
  have hb3 := below_step (below_two hb1) hb2
  rw [G.out]
  clear z0 q0 r0
  go_wp2_with fail
  refine (Tryd.utf8_DecodeRuneInString b _ (Utf8Tabs_below (feed_tabs hT hb1) hb2)).mono ?_
  rintro e w3 ⟨rfl, hb4⟩
  obtain ⟨z1, q1, r1⟩ := box_below X2.out hb4
  have hb5 := hb3.trans (hb4.mono hb3.size)
  rw [hr0, hn0]
  clear hT hr0 hn0 hb
  go_wp2_with fail
  refine bodyPost_ret (v := .tuple #[.agg #[.string ⟨#[]⟩], _]) (by simp [results, Tryd.results7, go_sem, q1, z1]; rfl) rfl ⟨_, rfl, ?_, ?_⟩
  · exact own_one_at _ _ _ _ (by simp) (by have := hb5.size; simp; omega)
  · exact (hb5.setCell (by simp) _).alloc (by have := hb5.size; simp; omega) _


set_option maxHeartbeats 400000 in
theorem feed_rec (s : ByteArray) (c : UInt8) (w : World) (hT : Lib.Utf8Tabs 0 1 w) (hm : s.size ≤ 3) (hs : Dec.saneB s = true) (hg : Dec.begB (s ++ ⟨#[c]⟩) = false) (hd : ¬ (Lib.decodeGo (s ++ ⟨#[c]⟩)).2 = (s ++ ⟨#[c]⟩).size)
    (t : ByteArray) (l : List Int) (hl : l.length ≤ 1) (h0 : ∀ w, Lib.Utf8Tabs 0 1 w → Calls Tryd.prog 7 #[.agg #[.string ⟨#[]⟩], .int .u8 c.toNat] w fun e w' => ∃ v, e = .returned (.tuple #[.agg #[.string t], v]) ∧ Own w.heap.size v l w' ∧ Below w.heap.size w w') :
    Calls Tryd.prog 7 #[.agg #[.string s], .int .u8 c.toNat] w fun e w' => ∃ v, e = .returned (.tuple #[.agg #[.string t], v]) ∧ Own w.heap.size v (65533 :: l) w' ∧ Below w.heap.size w w' := by
  have H := Lib.hid hs
  have hcv := run_bytes1 c
  obtain ⟨b, hb⟩ : ∃ b, s ++ (⟨#[c]⟩ : ByteArray) = b := ⟨_, rfl⟩
  rw [hb] at hg hd
  have G := Lib.hid hg
  have e1 := bne_nat_int hd
  have hr := Dec.decodeGo_range b
  have hsz : b.size ≤ 4 := by rw [← hb, ByteArray.size_append]; show s.size + 1 ≤ 4; omega
  have K0 := Lib.hid h0
  clear hs hg hd h0
  obtain ⟨r, hr0⟩ : ∃ r, (Lib.decodeGo b).1 = r := ⟨_, rfl⟩
  obtain ⟨n, hn0⟩ : ∃ n, (Lib.decodeGo b).2 = n := ⟨_, rfl⟩
  rw [hr0] at hr
  rw [hn0] at e1
  go_enter Tryd.func7, Tryd.ntmps7
  go_wp2_with fail
  refine (sane_any s _ (tabs_alloc (tabs_alloc hT _) _)).mono ?_
  rintro e w1 ⟨rfl, hb1⟩
  obtain ⟨z0, q0, r0⟩ := box_below (box_alloc (box_new w (.string s) 28) _) hb1
  have hx1 := box_below (box_new (w.alloc (Obj.cells #[Value.string s] 28)) (.string { data := #[] }) 28) hb1
  simp only [World.size_alloc] at hx1
  have X1 := Lib.hid hx1
  clear hx1
  rw [H.out]
  go_wp2_with fail
  refine (begins_any b _ (feed_tabs hT hb1)).mono ?_
  rintro e w2 ⟨rfl, hb2⟩
  have X2 := Lib.hid (box_below (box_alloc X1.out _) hb2)
  have hb3 := below_step (below_two hb1) hb2
  rw [G.out]
  clear z0 q0 r0
  go_wp2_with fail
  refine (Tryd.utf8_DecodeRuneInString b _ (Utf8Tabs_below (feed_tabs hT hb1) hb2)).mono ?_
  rintro e w3 ⟨rfl, hb4⟩
  have X3 := Lib.hid (box_below X2.out hb4)
  have hb5 := hb3.trans (hb4.mono hb3.size)
  have hT3 := Lib.hid (Utf8Tabs_below (Utf8Tabs_below (feed_tabs hT hb1) hb2) hb4)
  rw [hr0, hn0]
  clear hT hr0 hn0 hb hb1 hb2 hb3 hb4 X1 X2 hcv
  go_wp2_with fail
  refine (K0.out _ hT3.out).mono ?_
  rintro e w4 ⟨v, rfl, hv, hb6⟩
  have hb7 := hb5.trans (hb6.mono hb5.size)
  have X4 := Lib.hid (box_alloc (box_alloc (box_below X3.out hb6) (Obj.cells #[Value.string t] 28)) (Obj.cells #[Value.int IntKind.i64 65533] 3))
  have XT := Lib.hid (box_alloc (box_new w4 (Value.string t) 28) (Obj.cells #[Value.int IntKind.i64 65533] 3))
  have hz5 : w.heap.size + 2 ≤ w4.heap.size := by have := X3.out.1; have := hb6.size; omega
  have hown := Lib.hid (own_one_at (w.heap.size + 2) 65533 (w4.alloc (Obj.cells #[Value.string t] 28)) (w4.heap.size + 1) (by simp) (by simp; omega))
  have hB := Lib.hid ((hb7.alloc hb7.size (Obj.cells #[Value.string t] 28)).alloc (by have := hb7.size; simp; omega) (Obj.cells #[Value.int IntKind.i64 65533] 3))
  obtain ⟨i0, hi, hz0, hz1, hz2⟩ := info_parts info_int
  have hne : w.heap.size + 1 ≠ w4.heap.size + 1 := by omega
  rcases own_src hv with ⟨rfl, rfl⟩ | ⟨g, cap, rfl, hg, hgl, hsrc⟩
  · obtain ⟨z4, q4, r4⟩ := X4.out
    clear hv hb5 hb6 hb7
    go_wp2_with fail
    go_region_law (refine step_append_own_none rfl (.tmp 45) (.tmp 46) 25 rfl (w.heap.size + 2) 3 i0 1 Tryd.underlying25 hi _ 1 _ rfl (own_drew hown.out) rfl ?_)
    all_goals go_wp2_with fail
    all_goals refine bodyPost_ret (v := .tuple #[.agg #[.string t], _]) (by simp [results, Tryd.results7, go_sem, q4]; rfl) rfl ⟨_, rfl, ?_, ?_⟩
    all_goals first | exact (hB.out.setCell (by simp) _).drew | exact own_drew (own_mono (own_set hown.out _ _ (own_ne hown.out (by simp))) (by omega))
  · have hsrc5 : ∀ j u, (l.map (Value.int .i64))[j]? = some u → ((w4.alloc (Obj.cells #[Value.string t] 28)).alloc (Obj.cells #[Value.int IntKind.i64 65533] 3)).drew.cell? ((⟨g, 0, none⟩ : Addr).add j) = some u := by
      intro j u hu
      have h := hsrc j u hu
      have h1 := World.cell?_alloc_lt (w := w4) (o := Obj.cells #[Value.string t] 28) (a := (⟨g, 0, none⟩ : Addr).add j) (World.block_lt_of_cell? _ _ h)
      have h2 := World.cell?_alloc_lt (w := w4.alloc (Obj.cells #[Value.string t] 28)) (o := Obj.cells #[Value.int IntKind.i64 65533] 3) (a := (⟨g, 0, none⟩ : Addr).add j) (World.block_lt_of_cell? _ _ (h1.trans h))
      exact h2.trans (h1.trans h)
    have hsrc5 := Lib.hid hsrc5
    clear hv hb5 hb6 hb7 hsrc hg
    go_wp2_with fail
    go_region_law (refine step_append_own rfl (.tmp 45) (.tmp 46) 25 rfl (w.heap.size + 2) 3 i0 (.int .i64 0) 1 8 Tryd.underlying25 hi hz0 hz1 hz2 rfl (by decide) _ 1 _ rfl (own_drew hown.out) ⟨g, 0, none⟩ l.length cap (l.map (Value.int .i64)) rfl (by simp) hsrc5.out (ints_oneCell l) (by unfold maxLen; omega) (by omega) (by simp; omega) ?_; intro v5 w5 hown5 hgrow5; obtain ⟨z5, q5, r5⟩ := box_grown X4.out hgrow5 (ne_own hne); obtain ⟨z6, q6, r6⟩ := box_grown XT.out hgrow5 (ne_own (by omega)); have hb8 := grown_below hB.out hgrow5 hB.out.size (by omega))
    all_goals go_wp2_with fail
    all_goals refine bodyPost_ret (v := .tuple #[.agg #[.string t], _]) (by simp [results, Tryd.results7, go_sem, q5]; rfl) rfl ⟨_, rfl, ?_, ?_⟩
    all_goals first | exact hb8.setCell (by simp) _ | exact own_mono (own_set (own_of_row hown5 (by simp; omega) (by simp)) _ _ (own_ne (l := 65533 :: l) (own_of_row hown5 (by simp; omega) (by simp)) (by simp))) (by omega)

end Go.Proofs.YtcchcgllgodkhaaDoor
