/- Layer 7: the code's Compose. -/
import Derived.Test.YtkhjkodeolaemaaDoorCnA5
namespace Go.Proofs.YtkhjkodeolaemaaDoor
set_option linter.unusedSimpArgs false
set_option linter.unusedVariables false
open Go.RowKit Go.Lib

theorem make_empty (n : Nat) (hn : n ≤ 1000000) : ∃ X : Array Value, X.size = n ∧ ∀ W : World, (Instr.makeSlice 22 (.int .i64 0) (.int .i64 (n : Int))).run Tryd.prog W = .ok (.slice (some ⟨W.heap.size, 0, none⟩) 0 n) (W.alloc (.cells X 3)) := by
  obtain ⟨i0, hi, h⟩ := Option.map_eq_some_iff.1 info_i
  simp only [Prod.mk.injEq] at h
  refine ⟨madeCells (Value.int .i64 0).cells (n * i0.size), by rw [size_madeCells, h.2.1]; omega, fun W => ?_⟩
  have hr := run_make (P := Tryd.prog) W 22 3 i0 (.int .i64 0) Tryd.underlying22 hi h.1 .i64 .i64 0 (n : Int) (by omega) (by omega) (by rw [h.2.2]; omega) (by omega)
  rw [Int.toNat_natCast] at hr
  exact hr
theorem own_empty (w : World) (X : Array Value) (n : Nat) (hX : X.size = n) (hn : n ≤ maxLen) : OwnI w.heap.size (.slice (some ⟨w.heap.size, 0, none⟩) 0 n) [] (w.alloc (.cells X 3)) := by
  refine ⟨by simp, .inr ⟨w.heap.size, n, X, rfl, Nat.le_refl _, heap_alloc_new w _, by simp, hn, by rw [hX, Nat.mul_one], ?_⟩⟩
  simp

theorem cccOf7 (r : Int) (c : Int) (h : Prp.cccI r = c) (w : World) : Calls Tryd.prog 19 #[.int .i64 r] w fun e w' => e = .returned (.int .i64 c) ∧ Below w.heap.size w w' := h ▸ ccc_any r w

set_option maxHeartbeats 6400000 in
set_option maxRecDepth 100000 in
theorem composeC_of (hJ : JoinYes) (hN : JoinNot) : ComposeC := by
  intro v l w hl hv _
  obtain ⟨i0, hi, hz0, hz1, hz2⟩ := info_parts info_i
  obtain ⟨p, cap, rfl⟩ := ri_form hv
  obtain ⟨X, hX, hmk⟩ := make_empty l.length (by omega)
  replace hv := Lib.hid hv
  replace hX := Lib.hid hX
  replace hJ := Lib.hid hJ
  replace hN := Lib.hid hN
  go_enter Tryd.func16, Tryd.ntmps16
  go_wp2_with fail
  go_loopg [3, 4, 5, 7, 8, 9, 10, 16] l.length (fun g vt vh vl v7 v8 v9 v10 vi wr => ∃ (k : Nat) (H last : Int), k ≤ l.length ∧ vi = .int .i64 k ∧ vh = .int .i64 H ∧ vl = .int .i64 last ∧ g = l.length - k ∧ OwnI w.heap.size vt (Can.composeI (l.take k)) wr ∧ Below w.heap.size w wr ∧ Head (Can.composeI (l.take k)) H last)
  case atStart => exact ⟨0, -1, 0, Nat.zero_le _, rfl, rfl, rfl, rfl, own_empty w X l.length hX.out (by unfold maxLen; omega), below_new w _, ⟨.inl ⟨rfl, fun j h => by cases h⟩, fun L h => by cases h⟩⟩
  case round =>
    obtain ⟨k, H, last, hk, rfl, rfl, rfl, rfl, hown, hbel, hh⟩ := hrel
    by_cases hlt : k < l.length
    · have hlt' : (k : Int) < (l.length : Int) := by omega
      obtain ⟨b, off, rfl, hb, hcell⟩ := ri_at (ri_below hv.out hbel) (by omega)
      have hc := hcell k hlt
      obtain ⟨x, hx⟩ : ∃ x, l[k] = x := ⟨_, rfl⟩
      have hsn : l.take (k + 1) = l.take k ++ [x] := by rw [List.take_succ_eq_append_getElem hlt, hx]
      rw [hx] at hc
      have hstep := Can.compose_snoc (l.take k) x
      rw [← hsn] at hstep
      have hlen := Can.compose_le (l.take k)
      rw [List.length_take] at hlen
      obtain ⟨m, hm⟩ : ∃ m, Can.composeI (l.take k) = m := ⟨_, rfl⟩
      rw [hm] at hown hstep hlen hh
      have hml : m.length ≤ 1000000 := by omega
      obtain ⟨c, hc0⟩ : ∃ c, Prp.cccI x = c := ⟨_, rfl⟩
      have hccc := Lib.hid (fun W => cccOf7 x c hc0 W)
      obtain ⟨pt, ct, rfl⟩ := ri_form (ri_of_own hown)
      replace hc0 := Lib.hid hc0
      replace hstep := Lib.hid hstep
      replace hown := Lib.hid hown
      replace hbel := Lib.hid hbel
      replace hh := Lib.hid hh
      clear hcell hsn hx hm hlen hmk
      go_wp2_with fail
      refine (hccc.out _).mono ?_
      rintro e w2 ⟨rfl, hb2⟩
      have hc2 : w2.cell? ⟨b, off + k, none⟩ = some (.int .i64 x) := (hb2.cell hb).trans hc
      have o2 := Lib.hid (ownI_below hown.out hb2)
      have b2 := Lib.hid (below_on hbel.out hb2)
      clear hccc hown hbel hb2 hc
      have hd := hh.out
      obtain ⟨hd1, hd2⟩ := hd
      rcases hd1 with ⟨rfl, hall⟩ | ⟨j, hj, rfl, hmj, hafter⟩
      · have hst : Hid (Can.composeI (l.take (k + 1)) = m ++ [x]) := Lib.hid (by rw [hstep.out, Can.cstep_marks m x hall]; simp)
        clear hall hd2 hstep
        by_cases hmk : Prp.mrkB x = true
        · have o3 := Lib.hid (ownI_alloc o2.out (.cells #[.int .i64 x] 3))
          have b3 := Lib.hid (b2.out.alloc b2.out.size (.cells #[.int .i64 x] 3))
          have s3 := Lib.hid (ri_src (ri_of_own (ownI_lit w.heap.size w2 [x] #[.int .i64 x] w2.heap.size 1 rfl b2.out.size rfl rfl (by unfold maxLen; omega))))
          have hz : (c == 0) = false := beq_eq_false_iff_ne.2 (by have := (Can.mrk_iff x).1 hmk; have := hc0.out; omega)
          have hh2 := Lib.hid (head_mark (c := c) hh.out hmk hc0.out)
          clear hmk
          go_wp2_with (at_builtin; refine wpList_append_src rfl _ _ 22 rfl w.heap.size 3 i0 (.int .i64 0) 8 Tryd.underlying22 hi hz0 hz1 hz2 rfl _ _ _ rfl o3.out _ _ rfl s3.out (oneCellI _) (by simp only [List.length_map, List.length_append, List.length_take, List.length_drop, List.length_cons, List.length_nil, List.length_singleton]; unfold maxLen; omega) (by simp only [List.length_map, List.length_append, List.length_take, List.length_drop, List.length_cons, List.length_nil, List.length_singleton]; omega) b3.out.size ?_; intro v5 w5 ho5 hg5; have o5 := Lib.hid (ownI_of_row (l := m ++ [x]) ho5 (by (try simp); try omega) (by (try simp); try omega)); have b5 := Lib.hid (below_row b3.out hg5 b3.out.size o3.out (Nat.le_refl _)); clear ho5 hg5)
          go_roundg (l.length - (k + 1))
          case measure => omega
          case rel => exact ⟨k + 1, _, _, by omega, by go_num, rfl, rfl, rfl, by rw [hst.out]; exact o5.out, b5.out, by rw [hst.out]; exact hh2.out⟩
        · have o3 := Lib.hid (ownI_alloc o2.out (.cells #[.int .i64 x] 3))
          have b3 := Lib.hid (b2.out.alloc b2.out.size (.cells #[.int .i64 x] 3))
          have s3 := Lib.hid (ri_src (ri_of_own (ownI_lit w.heap.size w2 [x] #[.int .i64 x] w2.heap.size 1 rfl b2.out.size rfl rfl (by unfold maxLen; omega))))
          have hz : (c == 0) = true := beq_iff_eq.2 (by have := (Can.mrk_no x).1 (by simpa using hmk); have := hc0.out; omega)
          have hh2 := Lib.hid (head_new m (x := x) (last := c) (by simpa using hmk))
          clear hmk
          go_wp2_with (at_builtin; refine wpList_append_src rfl _ _ 22 rfl w.heap.size 3 i0 (.int .i64 0) 8 Tryd.underlying22 hi hz0 hz1 hz2 rfl _ _ _ rfl o3.out _ _ rfl s3.out (oneCellI _) (by simp only [List.length_map, List.length_append, List.length_take, List.length_drop, List.length_cons, List.length_nil, List.length_singleton]; unfold maxLen; omega) (by simp only [List.length_map, List.length_append, List.length_take, List.length_drop, List.length_cons, List.length_nil, List.length_singleton]; omega) b3.out.size ?_; intro v5 w5 ho5 hg5; have o5 := Lib.hid (ownI_of_row (l := m ++ [x]) ho5 (by (try simp); try omega) (by (try simp); try omega)); have b5 := Lib.hid (below_row b3.out hg5 b3.out.size o3.out (Nat.le_refl _)); clear ho5 hg5)
          go_roundg (l.length - (k + 1))
          case measure => omega
          case rel => exact ⟨k + 1, _, _, by omega, by go_num, rfl, rfl, rfl, by rw [hst.out]; exact o5.out, b5.out, by rw [hst.out]; exact hh2.out⟩
      · obtain ⟨L, hL⟩ : ∃ L, m.length = L + 1 := ⟨m.length - 1, by omega⟩
        by_cases hgo : j = L ∨ last < c
        · have hnb : ¬ (Prp.mrkB (m[L]'(by omega)) = true ∧ Prp.cccI x ≤ Prp.cccI (m[L]'(by omega))) := by
            rintro ⟨h1, h2⟩
            rcases hgo with rfl | hgo
            · rw [hmj] at h1; cases h1
            · have := hd2 L hL h1; rw [hc0.out] at h2; omega
          have hcs := Can.cstep_head m L hL x j hj hmj hafter hnb
          obtain ⟨g0, cp, hvt, hB, hg0, hcell2⟩ := ownI_open o2.out (by omega)
          have hcj := hcell2 j hj
          obtain ⟨y, hy⟩ : ∃ y, m[j] = y := ⟨_, rfl⟩
          rw [hy] at hcs hcj
          have hj1 : (j : Int) < (m.length : Int) := by omega
          have hjB : ((j : Int) == (m.length : Int) - 1) = decide (j = L) := by
            by_cases e : j = L
            · rw [decide_eq_true e]; exact beq_iff_eq.2 (by omega)
            · rw [decide_eq_false e]; exact beq_eq_false_iff_ne.2 (by omega)
          simp only [Value.slice.injEq] at hvt
          obtain ⟨rfl, _, rfl⟩ := hvt
          clear hnb hd2 hcell2 hafter hmj hy
          by_cases hjL : j = L
          · rw [decide_eq_true hjL] at hjB
            clear hgo hjL hL
            cases hjn : Par.joinI y x with
            | some u =>
              rw [hjn] at hcs
              have hst : Hid (Can.composeI (l.take (k + 1)) = m.set j u) := Lib.hid (by rw [hstep.out, hcs, List.reverse_reverse])
              have hmu := Lib.hid (Can.join_facts hjn).1
              have hcall := Lib.hid (fun W => hJ.out y x u hjn W)
              clear hcs hjn hstep
              go_wp2_with (go_at_call 23; refine (hcall.out _).mono ?_; rintro e w3 ⟨rfl, hb3⟩; have o3 := ownI_below o2.out hb3; have hcj3 := (hb3.cell hg0).trans hcj; have hfr := World.ownsRow.frozenAt o3 j; have o4 := Lib.hid (ownI_store o3 rfl j u); have b4 := Lib.hid ((below_on b2.out hb3).setCell (p := ⟨g0, j, none⟩) hB (.int .i64 u)); replace o3 := Lib.hid o3; replace hb3 := Lib.hid hb3; clear hcj)
              go_roundg (l.length - (k + 1))
              case measure => omega
              case rel => exact ⟨k + 1, _, _, by omega, by go_num, rfl, rfl, rfl, by rw [hst.out]; exact o4.out, b4.out, by rw [hst.out]; exact head_put hj hh.out hmu.out⟩
            | none =>
              rw [hjn] at hcs
              have hst : Hid (Can.composeI (l.take (k + 1)) = m ++ [x]) := Lib.hid (by rw [hstep.out, hcs]; simp)
              have hcall := Lib.hid (fun W => hN.out y x hjn W)
              clear hcs hjn hstep
              go_upto_region 12 with (go_at_call 23; refine (hcall.out _).mono ?_; rintro e w3 ⟨rfl, hb3⟩; replace o2 := Lib.hid (ownI_below o2.out hb3); replace b2 := Lib.hid (below_on b2.out hb3); clear hcj)
              by_cases hmk : Prp.mrkB x = true
              · have o3 := Lib.hid (ownI_alloc o2.out (.cells #[.int .i64 x] 3))
                have b3 := Lib.hid (b2.out.alloc b2.out.size (.cells #[.int .i64 x] 3))
                have s3 := Lib.hid (ri_src (ri_of_own (ownI_lit w.heap.size w3 [x] #[.int .i64 x] w3.heap.size 1 rfl b2.out.size rfl rfl (by unfold maxLen; omega))))
                have hz : (c == 0) = false := beq_eq_false_iff_ne.2 (by have := (Can.mrk_iff x).1 hmk; have := hc0.out; omega)
                have hh2 := Lib.hid (head_mark (c := c) hh.out hmk hc0.out)
                clear hmk
                go_wp2_with (at_builtin; refine wpList_append_src rfl _ _ 22 rfl w.heap.size 3 i0 (.int .i64 0) 8 Tryd.underlying22 hi hz0 hz1 hz2 rfl _ _ _ rfl o3.out _ _ rfl s3.out (oneCellI _) (by simp only [List.length_map, List.length_append, List.length_take, List.length_drop, List.length_cons, List.length_nil, List.length_singleton]; unfold maxLen; omega) (by simp only [List.length_map, List.length_append, List.length_take, List.length_drop, List.length_cons, List.length_nil, List.length_singleton]; omega) b3.out.size ?_; intro v5 w5 ho5 hg5; have o5 := Lib.hid (ownI_of_row (l := m ++ [x]) ho5 (by (try simp); try omega) (by (try simp); try omega)); have b5 := Lib.hid (below_row b3.out hg5 b3.out.size o3.out (Nat.le_refl _)); clear ho5 hg5)
                go_roundg (l.length - (k + 1))
                case measure => omega
                case rel => exact ⟨k + 1, _, _, by omega, by go_num, rfl, rfl, rfl, by rw [hst.out]; exact o5.out, b5.out, by rw [hst.out]; exact hh2.out⟩
              · have o3 := Lib.hid (ownI_alloc o2.out (.cells #[.int .i64 x] 3))
                have b3 := Lib.hid (b2.out.alloc b2.out.size (.cells #[.int .i64 x] 3))
                have s3 := Lib.hid (ri_src (ri_of_own (ownI_lit w.heap.size w3 [x] #[.int .i64 x] w3.heap.size 1 rfl b2.out.size rfl rfl (by unfold maxLen; omega))))
                have hz : (c == 0) = true := beq_iff_eq.2 (by have := (Can.mrk_no x).1 (by simpa using hmk); have := hc0.out; omega)
                have hh2 := Lib.hid (head_new m (x := x) (last := c) (by simpa using hmk))
                clear hmk
                go_wp2_with (at_builtin; refine wpList_append_src rfl _ _ 22 rfl w.heap.size 3 i0 (.int .i64 0) 8 Tryd.underlying22 hi hz0 hz1 hz2 rfl _ _ _ rfl o3.out _ _ rfl s3.out (oneCellI _) (by simp only [List.length_map, List.length_append, List.length_take, List.length_drop, List.length_cons, List.length_nil, List.length_singleton]; unfold maxLen; omega) (by simp only [List.length_map, List.length_append, List.length_take, List.length_drop, List.length_cons, List.length_nil, List.length_singleton]; omega) b3.out.size ?_; intro v5 w5 ho5 hg5; have o5 := Lib.hid (ownI_of_row (l := m ++ [x]) ho5 (by (try simp); try omega) (by (try simp); try omega)); have b5 := Lib.hid (below_row b3.out hg5 b3.out.size o3.out (Nat.le_refl _)); clear ho5 hg5)
                go_roundg (l.length - (k + 1))
                case measure => omega
                case rel => exact ⟨k + 1, _, _, by omega, by go_num, rfl, rfl, rfl, by rw [hst.out]; exact o5.out, b5.out, by rw [hst.out]; exact hh2.out⟩
          · rw [decide_eq_false hjL] at hjB
            have hlc : last < c := by rcases hgo with h | h; exact absurd h hjL; exact h
            clear hgo hjL hL
            cases hjn : Par.joinI y x with
            | some u =>
              rw [hjn] at hcs
              have hst : Hid (Can.composeI (l.take (k + 1)) = m.set j u) := Lib.hid (by rw [hstep.out, hcs, List.reverse_reverse])
              have hmu := Lib.hid (Can.join_facts hjn).1
              have hcall := Lib.hid (fun W => hJ.out y x u hjn W)
              clear hcs hjn hstep
              go_wp2_with (go_at_call 23; refine (hcall.out _).mono ?_; rintro e w3 ⟨rfl, hb3⟩; have o3 := ownI_below o2.out hb3; have hcj3 := (hb3.cell hg0).trans hcj; have hfr := World.ownsRow.frozenAt o3 j; have o4 := Lib.hid (ownI_store o3 rfl j u); have b4 := Lib.hid ((below_on b2.out hb3).setCell (p := ⟨g0, j, none⟩) hB (.int .i64 u)); replace o3 := Lib.hid o3; replace hb3 := Lib.hid hb3; clear hcj)
              go_roundg (l.length - (k + 1))
              case measure => omega
              case rel => exact ⟨k + 1, _, _, by omega, by go_num, rfl, rfl, rfl, by rw [hst.out]; exact o4.out, b4.out, by rw [hst.out]; exact head_put hj hh.out hmu.out⟩
            | none =>
              rw [hjn] at hcs
              have hst : Hid (Can.composeI (l.take (k + 1)) = m ++ [x]) := Lib.hid (by rw [hstep.out, hcs]; simp)
              have hcall := Lib.hid (fun W => hN.out y x hjn W)
              clear hcs hjn hstep
              go_upto_region 12 with (go_at_call 23; refine (hcall.out _).mono ?_; rintro e w3 ⟨rfl, hb3⟩; replace o2 := Lib.hid (ownI_below o2.out hb3); replace b2 := Lib.hid (below_on b2.out hb3); clear hcj)
              by_cases hmk : Prp.mrkB x = true
              · have o3 := Lib.hid (ownI_alloc o2.out (.cells #[.int .i64 x] 3))
                have b3 := Lib.hid (b2.out.alloc b2.out.size (.cells #[.int .i64 x] 3))
                have s3 := Lib.hid (ri_src (ri_of_own (ownI_lit w.heap.size w3 [x] #[.int .i64 x] w3.heap.size 1 rfl b2.out.size rfl rfl (by unfold maxLen; omega))))
                have hz : (c == 0) = false := beq_eq_false_iff_ne.2 (by have := (Can.mrk_iff x).1 hmk; have := hc0.out; omega)
                have hh2 := Lib.hid (head_mark (c := c) hh.out hmk hc0.out)
                clear hmk
                go_wp2_with (at_builtin; refine wpList_append_src rfl _ _ 22 rfl w.heap.size 3 i0 (.int .i64 0) 8 Tryd.underlying22 hi hz0 hz1 hz2 rfl _ _ _ rfl o3.out _ _ rfl s3.out (oneCellI _) (by simp only [List.length_map, List.length_append, List.length_take, List.length_drop, List.length_cons, List.length_nil, List.length_singleton]; unfold maxLen; omega) (by simp only [List.length_map, List.length_append, List.length_take, List.length_drop, List.length_cons, List.length_nil, List.length_singleton]; omega) b3.out.size ?_; intro v5 w5 ho5 hg5; have o5 := Lib.hid (ownI_of_row (l := m ++ [x]) ho5 (by (try simp); try omega) (by (try simp); try omega)); have b5 := Lib.hid (below_row b3.out hg5 b3.out.size o3.out (Nat.le_refl _)); clear ho5 hg5)
                go_roundg (l.length - (k + 1))
                case measure => omega
                case rel => exact ⟨k + 1, _, _, by omega, by go_num, rfl, rfl, rfl, by rw [hst.out]; exact o5.out, b5.out, by rw [hst.out]; exact hh2.out⟩
              · have o3 := Lib.hid (ownI_alloc o2.out (.cells #[.int .i64 x] 3))
                have b3 := Lib.hid (b2.out.alloc b2.out.size (.cells #[.int .i64 x] 3))
                have s3 := Lib.hid (ri_src (ri_of_own (ownI_lit w.heap.size w3 [x] #[.int .i64 x] w3.heap.size 1 rfl b2.out.size rfl rfl (by unfold maxLen; omega))))
                have hz : (c == 0) = true := beq_iff_eq.2 (by have := (Can.mrk_no x).1 (by simpa using hmk); have := hc0.out; omega)
                have hh2 := Lib.hid (head_new m (x := x) (last := c) (by simpa using hmk))
                clear hmk
                go_wp2_with (at_builtin; refine wpList_append_src rfl _ _ 22 rfl w.heap.size 3 i0 (.int .i64 0) 8 Tryd.underlying22 hi hz0 hz1 hz2 rfl _ _ _ rfl o3.out _ _ rfl s3.out (oneCellI _) (by simp only [List.length_map, List.length_append, List.length_take, List.length_drop, List.length_cons, List.length_nil, List.length_singleton]; unfold maxLen; omega) (by simp only [List.length_map, List.length_append, List.length_take, List.length_drop, List.length_cons, List.length_nil, List.length_singleton]; omega) b3.out.size ?_; intro v5 w5 ho5 hg5; have o5 := Lib.hid (ownI_of_row (l := m ++ [x]) ho5 (by (try simp); try omega) (by (try simp); try omega)); have b5 := Lib.hid (below_row b3.out hg5 b3.out.size o3.out (Nat.le_refl _)); clear ho5 hg5)
                go_roundg (l.length - (k + 1))
                case measure => omega
                case rel => exact ⟨k + 1, _, _, by omega, by go_num, rfl, rfl, rfl, by rw [hst.out]; exact o5.out, b5.out, by rw [hst.out]; exact hh2.out⟩
        · have hjL : j ≠ L := fun h => hgo (.inl h)
          have hlc : ¬ last < c := fun h => hgo (.inr h)
          have hmL := hafter L (by omega) (by omega)
          have hst : Hid (Can.composeI (l.take (k + 1)) = m ++ [x]) := Lib.hid (by rw [hstep.out, Can.cstep_block m L hL x hmL (by rw [hc0.out]; have := hd2 L hL hmL; omega)]; simp)
          have hjB : ((j : Int) == (m.length : Int) - 1) = false := beq_eq_false_iff_ne.2 (by omega)
          clear hgo hjL hd2 hafter hmj hmL hL hstep
          by_cases hmk : Prp.mrkB x = true
          · have o3 := Lib.hid (ownI_alloc o2.out (.cells #[.int .i64 x] 3))
            have b3 := Lib.hid (b2.out.alloc b2.out.size (.cells #[.int .i64 x] 3))
            have s3 := Lib.hid (ri_src (ri_of_own (ownI_lit w.heap.size w2 [x] #[.int .i64 x] w2.heap.size 1 rfl b2.out.size rfl rfl (by unfold maxLen; omega))))
            have hz : (c == 0) = false := beq_eq_false_iff_ne.2 (by have := (Can.mrk_iff x).1 hmk; have := hc0.out; omega)
            have hh2 := Lib.hid (head_mark (c := c) hh.out hmk hc0.out)
            clear hmk
            go_wp2_with (at_builtin; refine wpList_append_src rfl _ _ 22 rfl w.heap.size 3 i0 (.int .i64 0) 8 Tryd.underlying22 hi hz0 hz1 hz2 rfl _ _ _ rfl o3.out _ _ rfl s3.out (oneCellI _) (by simp only [List.length_map, List.length_append, List.length_take, List.length_drop, List.length_cons, List.length_nil, List.length_singleton]; unfold maxLen; omega) (by simp only [List.length_map, List.length_append, List.length_take, List.length_drop, List.length_cons, List.length_nil, List.length_singleton]; omega) b3.out.size ?_; intro v5 w5 ho5 hg5; have o5 := Lib.hid (ownI_of_row (l := m ++ [x]) ho5 (by (try simp); try omega) (by (try simp); try omega)); have b5 := Lib.hid (below_row b3.out hg5 b3.out.size o3.out (Nat.le_refl _)); clear ho5 hg5)
            go_roundg (l.length - (k + 1))
            case measure => omega
            case rel => exact ⟨k + 1, _, _, by omega, by go_num, rfl, rfl, rfl, by rw [hst.out]; exact o5.out, b5.out, by rw [hst.out]; exact hh2.out⟩
          · have o3 := Lib.hid (ownI_alloc o2.out (.cells #[.int .i64 x] 3))
            have b3 := Lib.hid (b2.out.alloc b2.out.size (.cells #[.int .i64 x] 3))
            have s3 := Lib.hid (ri_src (ri_of_own (ownI_lit w.heap.size w2 [x] #[.int .i64 x] w2.heap.size 1 rfl b2.out.size rfl rfl (by unfold maxLen; omega))))
            have hz : (c == 0) = true := beq_iff_eq.2 (by have := (Can.mrk_no x).1 (by simpa using hmk); have := hc0.out; omega)
            have hh2 := Lib.hid (head_new m (x := x) (last := c) (by simpa using hmk))
            clear hmk
            go_wp2_with (at_builtin; refine wpList_append_src rfl _ _ 22 rfl w.heap.size 3 i0 (.int .i64 0) 8 Tryd.underlying22 hi hz0 hz1 hz2 rfl _ _ _ rfl o3.out _ _ rfl s3.out (oneCellI _) (by simp only [List.length_map, List.length_append, List.length_take, List.length_drop, List.length_cons, List.length_nil, List.length_singleton]; unfold maxLen; omega) (by simp only [List.length_map, List.length_append, List.length_take, List.length_drop, List.length_cons, List.length_nil, List.length_singleton]; omega) b3.out.size ?_; intro v5 w5 ho5 hg5; have o5 := Lib.hid (ownI_of_row (l := m ++ [x]) ho5 (by (try simp); try omega) (by (try simp); try omega)); have b5 := Lib.hid (below_row b3.out hg5 b3.out.size o3.out (Nat.le_refl _)); clear ho5 hg5)
            go_roundg (l.length - (k + 1))
            case measure => omega
            case rel => exact ⟨k + 1, _, _, by omega, by go_num, rfl, rfl, rfl, by rw [hst.out]; exact o5.out, b5.out, by rw [hst.out]; exact hh2.out⟩
    · obtain rfl : k = l.length := by omega
      have hlt' : decide ((l.length : Int) < (l.length : Int)) = false := by simp
      rw [List.take_length] at hown
      replace hown := Lib.hid hown
      replace hbel := Lib.hid hbel
      replace hh := Lib.hid hh
      clear hmk
      go_wp2_with fail
      go_ret
      exact ⟨_, rfl, ri_of_own hown.out, hbel.out⟩
end Go.Proofs.YtkhjkodeolaemaaDoor
