/- Layer 1, the document's answer: Feed. -/
import Derived.Test.YtcchcgllgodkhaaDoorRA5
import Derived.Test.YtcchcgllgodkhaaDoorK2
namespace Go.Proofs.YtcchcgllgodkhaaDoor
open Go.RowKit Go.Lib

/-- what Feed comes to -/
def RFeedRes (t : List UInt8) (m : List Int) (w : World) (e : Ending) (w' : World) : Prop :=
  ∃ (T : ByteArray) (v : Value), e = .returned (.tuple #[.agg #[.string T], v]) ∧ T.data.toList = t ∧ Own w.heap.size v m w' ∧ Below w.heap.size w w'

/-- behind the first question: the state that may be -/
def FeedMid (w : World) (p : ByteArray) (wx : World) : Prop := Box wx w.heap.size (.string p) ∧ Box wx (w.heap.size + 1) (.string ⟨#[]⟩) ∧ Below w.heap.size w wx

theorem own_Src {B : Nat} {v : Value} {l : List Int} {w : World} (h : Own B v l w) : Src w v (l.map (Value.int .i64)) := by
  rcases own_src h with ⟨rfl, rfl⟩ | ⟨g, cap, rfl, _, _, hc⟩
  · exact .inl ⟨rfl, rfl⟩
  · exact .inr ⟨⟨g, 0, none⟩, cap, by rw [List.length_map], hc⟩

theorem box_grown0 {w w1 : World} {k : Nat} {v : Value} {row : Option Nat} (h : Box w k v) (hg : w.grownBy w1 row) (hne : some k ≠ row) : Box w1 k v := by
  obtain ⟨h0, h1, h2⟩ := h
  have hb := hg.block k h0 hne
  have := hg.size
  exact ⟨Nat.lt_of_lt_of_le h0 this, by rw [World.cell?_of_block (w := w) hb]; exact h1, by rw [World.frozen?_of_block (w := w) hb]; exact h2⟩

set_option maxHeartbeats 1600000 in
theorem rfeed_step (s : ByteArray) (l : List UInt8) (hl : s.data.toList = l) (hm : l.length ≤ 1000) (c : UInt8) (w : World)
    (hrec : l ≠ [] → Dec.saneL l = true → ∀ w, Calls Tryd.prog 8 #[.agg #[.string ⟨#[]⟩], .int .u8 c.toNat] w (RFeedRes (Dec.feedL [] c).1 (Dec.feedL [] c).2 w)) :
    Calls Tryd.prog 8 #[.agg #[.string s], .int .u8 c.toNat] w (RFeedRes (Dec.feedL l c).1 (Dec.feedL l c).2 w) := by
  have hsn := rsane_any s l hl hm
  unfold BoolRes at hsn
  have hcv := run_bytes1 c
  obtain ⟨p, pl, hp, hpl, hps, hpeq, hpm⟩ : ∃ (p : ByteArray) (pl : List UInt8), p.data.toList = pl ∧ ((Dec.saneL l = true ∧ p = s ∧ pl = l) ∨ (Dec.saneL l = false ∧ p = ⟨#[]⟩ ∧ pl = [])) ∧ Dec.saneL pl = true ∧ Dec.feedL l c = Dec.feedL pl c ∧ pl.length ≤ 3 := by
    cases hS : Dec.saneL l with
    | true =>
      refine ⟨s, l, hl, .inl ⟨rfl, rfl, rfl⟩, hS, rfl, ?_⟩
      rw [saneL_cases] at hS
      rcases Bool.or_eq_true_iff.1 hS with h | h
      · have := of_decide_eq_true h; omega
      · exact (Dec.beg_len h).2
    | false => exact ⟨⟨#[]⟩, [], rfl, .inr ⟨rfl, rfl, rfl⟩, rfl, Dec.feedL_ins hS, by simp⟩
  rw [hpeq]
  clear hpeq
  replace hl := Lib.hid hl
  replace hp := Lib.hid hp
  replace hps := Lib.hid hps
  replace hrec := Lib.hid hrec
  go_enter Tryd.func8, Tryd.ntmps8
  go_wp2_with fail
  refine (hsn _).mono ?_
  rintro e w1 ⟨rfl, hb1⟩
  clear hsn
  have hX0 := box_below (box_alloc (box_new w (.string s) 23) (.cells #[.string { data := #[] }] 23)) hb1
  have hX1 := box_below (box_new (w.alloc (Obj.cells #[Value.string s] 23)) (.string { data := #[] }) 23) hb1
  simp only [World.size_alloc] at hX1
  have hbel := below_two hb1
  clear hb1
  replace hX1 := Lib.hid hX1
  replace hbel := Lib.hid hbel
  have hX0' := Lib.hid hX0
  obtain ⟨z0, q0, r0⟩ := hX0
  have hcellS : Hid True := Lib.hid trivial
  go_upto_if 14 with (fail)
  go_cut [] (fun wx => FeedMid w p wx)
  case first =>
    rcases hpl with ⟨hS, rfl, rfl⟩ | ⟨hS, rfl, rfl⟩
    · rw [hS]
      replace hS := Lib.hid hS
      go_wp2_with fail
      go_meet
      exact ⟨hX0'.out, hX1.out, hbel.out⟩
    · rw [hS]
      replace hS := Lib.hid hS
      go_wp2_with fail
      go_meet
      exact ⟨box_set hX0'.out, box_set' hX1.out _ _ (by simp), hbel.out.setCell (Nat.le_refl _) _⟩
  case rest =>
    clear hX1 hbel hX0' z0 q0 r0 hcellS
    obtain ⟨hM0, hM1, hMb⟩ := hcut
    have hM0h := Lib.hid hM0
    obtain ⟨z0, q0, r0⟩ := hM0
    replace hM1 := Lib.hid hM1
    replace hMb := Lib.hid hMb
    obtain ⟨b, hb⟩ : ∃ b, p ++ (⟨#[c]⟩ : ByteArray) = b := ⟨_, rfl⟩
    have hbl : b.data.toList = pl ++ [c] := by rw [← hb, ← hp.out]; simp
    have hpsz : p.size ≤ 3 := by have h : p.size = pl.length := by rw [← hp.out]; rfl
                                 omega
    go_wp2_with fail
    refine (whole_any b _ hbl (by simp) (by simp; omega) _).mono ?_
    rintro e w2 ⟨v, ok, rfl, hyes, hno, hb2⟩
    have hbel2 := Lib.hid (below_step hMb.out hb2)
    have hX0 := Lib.hid (box_below (box_alloc hM0h.out _) hb2)
    have hX1 := Lib.hid (box_below (box_alloc hM1.out _) hb2)
    have hz2 : w.heap.size + 2 ≤ w2.heap.size := by have := hX1.out.1; omega
    clear hb2 hM0h hM1 z0 q0 r0 hcv
    cases ok with
    | true =>
      obtain ⟨hw, rfl⟩ := hyes rfl
      have hF := Lib.hid (Dec.ref_whole hps.out hw)
      clear hyes hno hw
      obtain ⟨z1, q1, r1⟩ := hX1.out
      obtain ⟨V, hV⟩ : ∃ V : Int, (Dec.valN (pl ++ [c]) 0 : Int) = V := ⟨_, rfl⟩
      rw [hV] at hF ⊢
      clear hV
      go_wp2_with fail
      refine bodyPost_ret (v := .tuple #[.agg #[.string ⟨#[]⟩], _]) (by simp [results, Tryd.results8, go_sem, q1, z1]; rfl) rfl ⟨⟨#[]⟩, _, rfl, by rw [hF.out], ?_, ?_⟩
      · rw [hF.out]
        exact own_one_at _ _ _ _ (by simp) (by simp; omega)
      · exact (hbel2.out.setCell (by simp) _).alloc (by simp; omega) _
    | false =>
      replace hno := Lib.hid (hno rfl)
      clear hyes
      have hbr := rbegins_any b _ hbl (by simp; omega)
      unfold BegRes at hbr
      cases hB : Dec.begL (pl ++ [c]) with
      | true =>
        have hF := Lib.hid (Dec.feedL_beg hps.out hB)
        rw [hB] at hbr
        replace hbr := Lib.hid hbr
        replace hbl := Lib.hid hbl
        clear hB
        go_wp2_with fail
        refine (hbr.out _).mono ?_
        rintro e w3 ⟨rfl, hb3⟩
        have hbel3 := Lib.hid (hbel2.out.trans (hb3.mono hbel2.out.size))
        obtain ⟨z1, q1, r1⟩ := box_below hX1.out hb3
        clear hb3
        go_wp2_with fail
        refine bodyPost_ret (v := .tuple #[.agg #[.string b], .slice none 0 0]) (by simp [results, Tryd.results8, go_sem, q1, z1]) rfl ⟨b, _, rfl, by rw [hF.out, hbl.out], ?_, ?_⟩
        · rw [hF.out]
          exact own_nil _ _
        · exact hbel3.out.setCell (by simp) _
      | false =>
        rw [hB] at hbr
        replace hbr := Lib.hid hbr
        replace hB := Lib.hid hB
        clear hbl
        by_cases h0 : p.size = 0
        · have hs := empty_of_size h0
          have hpl0 : pl = [] := by rw [← hp.out]; exact List.eq_nil_of_length_eq_zero h0
          have hF : Hid (Dec.feedL pl c = ([], [65533])) := Lib.hid (by
            have h1 := hno.out
            have h2 := hB.out
            rw [hpl0] at h1 h2 ⊢
            exact Dec.ref_alone h1 h2)
          clear h0 hpl0
          go_wp2_with fail
          refine (hbr.out _).mono ?_
          rintro e w3 ⟨rfl, hb3⟩
          have hbel3 := Lib.hid (hbel2.out.trans (hb3.mono hbel2.out.size))
          obtain ⟨z0, q0, r0⟩ := box_below hX0.out hb3
          obtain ⟨z1, q1, r1⟩ := box_below hX1.out hb3
          clear hb3
          go_wp2_with fail
          refine bodyPost_ret (v := .tuple #[.agg #[.string ⟨#[]⟩], _]) (by simp [results, Tryd.results8, go_sem, q1, z1]; rfl) rfl ⟨⟨#[]⟩, _, rfl, by rw [hF.out], ?_, ?_⟩
          · rw [hF.out]
            exact own_one_at _ _ _ _ (by simp) (by simp; omega)
          · exact (hbel3.out.setCell (by simp) _).alloc (by simp; omega) _
        · have hs := nonempty_of_size h0
          have hpl0 : pl ≠ [] := by intro e; rw [← hp.out] at e; exact h0 (by show p.data.toList.length = 0; rw [e]; rfl)
          have hF := Lib.hid (Dec.ref_again hps.out hpl0 hno.out hB.out)
          obtain ⟨hSl, rfl, rfl⟩ : Dec.saneL l = true ∧ p = s ∧ pl = l := by
            rcases hpl with h | h
            · exact h
            · exact absurd h.2.2 hpl0
          have hrec' := hrec.out hpl0 hSl
          obtain ⟨t0, ht0⟩ : ∃ t0, (Dec.feedL [] c).1 = t0 := ⟨_, rfl⟩
          obtain ⟨m0, hm0⟩ : ∃ m0, (Dec.feedL [] c).2 = m0 := ⟨_, rfl⟩
          have hml : m0.length ≤ 1 := by
            rw [← hm0, Dec.feedL_zero]
            split <;> simp
          rw [ht0, hm0] at hrec' hF
          replace hrec' := Lib.hid hrec'
          clear hrec h0 hpl0 hSl hpl ht0 hm0
          go_wp2_with fail
          refine (hbr.out _).mono ?_
          rintro e w3 ⟨rfl, hb3⟩
          have hbel3 := Lib.hid (hbel2.out.trans (hb3.mono hbel2.out.size))
          have hX0 := box_below hX0.out hb3
          have hX1 := Lib.hid (box_below hX1.out hb3)
          obtain ⟨z0, q0, r0⟩ := hX0
          clear hb3
          go_wp2_with fail
          refine (hrec'.out _).mono ?_
          rintro e w4 ⟨T, v4, rfl, hT4, hown4, hb4⟩
          have hbel4 := Lib.hid (hbel3.out.trans (hb4.mono hbel3.out.size))
          have hX4 := Lib.hid (box_below hX1.out hb4)
          replace hT4 := Lib.hid hT4
          replace hown4 := Lib.hid hown4
          clear hb4
          obtain ⟨i0, hi, hz0, hz1, hz2'⟩ := info_parts info_int
          have hown := Lib.hid (own_one_at (w.heap.size + 2) 65533 (w4.alloc (Obj.cells #[Value.string T] 23)) (w4.heap.size + 1) (by simp) (by have := hbel4.out.size; have := hX4.out.1; simp; omega))
          have hsrc := Lib.hid (own_Src (own_alloc (own_alloc hown4.out (Obj.cells #[Value.string T] 23)) (Obj.cells #[Value.int IntKind.i64 65533] 3)))
          have hX5 := Lib.hid (box_alloc (box_alloc hX4.out (Obj.cells #[Value.string T] 23)) (Obj.cells #[Value.int IntKind.i64 65533] 3))
          have hXT := Lib.hid (box_alloc (box_new w4 (Value.string T) 23) (Obj.cells #[Value.int IntKind.i64 65533] 3))
          have hB5 := Lib.hid ((hbel4.out.alloc hbel4.out.size (Obj.cells #[Value.string T] 23)).alloc (by have := hbel4.out.size; simp; omega) (Obj.cells #[Value.int IntKind.i64 65533] 3))
          have hm1 : 1 + (m0.map (Value.int .i64)).length ≤ maxLen := by rw [List.length_map]; unfold maxLen; omega
          have hm2 : (1 + (m0.map (Value.int .i64)).length) * 8 ≤ 140737488355328 := by rw [List.length_map]; omega
          have hm3 : w.heap.size + 2 ≤ ((w4.alloc (Obj.cells #[Value.string T] 23)).alloc (Obj.cells #[Value.int IntKind.i64 65533] 3)).heap.size := by have := hX4.out.1; simp; omega
          have hne : w.heap.size + 1 ≠ w4.heap.size + 1 := by have := hX4.out.1; omega
          replace hm1 := Lib.hid hm1
          replace hm2 := Lib.hid hm2
          replace hm3 := Lib.hid hm3
          go_upto_region 14 with (at_builtin; refine wpList_append_src rfl _ _ 25 rfl (w.heap.size + 2) 3 i0 (.int .i64 0) 8 Tryd.underlying25 hi hz0 hz1 hz2' rfl _ _ _ rfl hown.out _ _ rfl hsrc.out (ints_oneCell m0) hm1.out hm2.out hm3.out ?_; intro v5 w5 hown5 hgrow5)
          have hX6 := box_grown0 hX5.out hgrow5 (ne_own hne)
          obtain ⟨z7, q7, r7⟩ := box_grown0 hXT.out hgrow5 (ne_own (by omega))
          have hB6 := Lib.hid (below_row hB5.out hgrow5 hB5.out.size hown.out (by omega))
          have hown6 := Lib.hid (own_of_row (l := 65533 :: m0) hown5 (by simp; omega) (by simp))
          clear hown5 hgrow5
          obtain ⟨z6, q6, r6⟩ := hX6
          go_wp2_with fail
          refine bodyPost_ret (v := .tuple #[.agg #[.string T], v5]) (by simp [results, Tryd.results8, go_sem, q6, z6]) rfl ⟨T, v5, rfl, by rw [hF.out]; exact hT4.out, ?_, ?_⟩
          · rw [hF.out]
            exact own_mono (own_set hown6.out _ _ (own_ne hown6.out (by simp))) (by omega)
          · exact hB6.out.setCell (by simp) _

theorem rfeed_zero (c : UInt8) (w : World) : Calls Tryd.prog 8 #[.agg #[.string ⟨#[]⟩], .int .u8 c.toNat] w (RFeedRes (Dec.feedL [] c).1 (Dec.feedL [] c).2 w) :=
  rfeed_step ⟨#[]⟩ [] rfl (by simp) c w (fun h => absurd rfl h)

theorem rfeed_any (s : ByteArray) (l : List UInt8) (hl : s.data.toList = l) (hm : l.length ≤ 1000) (c : UInt8) (w : World) : Calls Tryd.prog 8 #[.agg #[.string s], .int .u8 c.toNat] w (RFeedRes (Dec.feedL l c).1 (Dec.feedL l c).2 w) :=
  rfeed_step s l hl hm c w (fun _ _ w => rfeed_zero c w)
end Go.Proofs.YtcchcgllgodkhaaDoor
