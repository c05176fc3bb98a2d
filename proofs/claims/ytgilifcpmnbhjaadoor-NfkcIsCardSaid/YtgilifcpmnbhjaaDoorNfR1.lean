/- Layer 8: the document's Made, Safe, Nfkd, Nfkc, Is. -/
import Derived.Test.YtgilifcpmnbhjaaDoorCnR3
import Derived.Test.YtgilifcpmnbhjaaDoorDeR3
import Derived.Test.YtgilifcpmnbhjaaDoorNfM
namespace Go.Proofs.YtgilifcpmnbhjaaDoor
set_option linter.unusedSimpArgs false
set_option linter.unusedVariables false
open Go.RowKit Go.Lib

theorem made_snoc (l : List Int) (x : Int) : Nfk.madeI (l ++ [x]) = Nfk.madeI l ++ Dcp.fullI x := by
  rw [Nfk.made_app]
  simp [Nfk.madeI]
theorem made_lenR (l : List Int) : (Nfk.madeI l).length ≤ 4 * l.length := by
  induction l with
  | nil => simp [Nfk.madeI]
  | cons x t ih =>
    have e : Nfk.madeI (x :: t) = Dcp.fullI x ++ Nfk.madeI t := rfl
    have := (Dcp.full_len x).2
    rw [e, List.length_append, List.length_cons]
    omega

set_option maxHeartbeats 1600000 in
set_option maxRecDepth 100000 in
theorem rmade_any (v : Value) (l : List Int) (w : World) (hl : l.length ≤ 200000) (hv : RI w v l) : Calls Tryd.prog 12 #[v] w (Makes (Nfk.madeI l) w) := by
  obtain ⟨i0, hi, hz0, hz1, hz2⟩ := info_parts info_i
  obtain ⟨p, cap, rfl⟩ := ri_form hv
  replace hv := Lib.hid hv
  go_enter Tryd.func12, Tryd.ntmps12
  go_wp2_with fail
  go_loopg [3, 4] l.length (fun g vo vi wr => ∃ k : Nat, k ≤ l.length ∧ vi = .int .i64 k ∧ g = l.length - k ∧ OwnI w.heap.size vo (Nfk.madeI (l.take k)) wr ∧ Below w.heap.size w wr)
  case atStart => exact ⟨0, Nat.zero_le _, rfl, rfl, ownI_nil _ _, Below.refl _ _⟩
  case round =>
    obtain ⟨k, hk, rfl, rfl, hown, hbel⟩ := hrel
    by_cases hlt : k < l.length
    · have hlt' : (k : Int) < (l.length : Int) := by omega
      obtain ⟨b, off, rfl, hb, hcell⟩ := ri_at (ri_below hv.out hbel) (by omega)
      have hc := hcell k hlt
      obtain ⟨x, hx⟩ : ∃ x, l[k] = x := ⟨_, rfl⟩
      have hsn : l.take (k + 1) = l.take k ++ [x] := by rw [List.take_succ_eq_append_getElem hlt, hx]
      rw [hx] at hc
      have hlen := made_lenR (l.take k)
      have hlx := (Dcp.full_len x).2
      have hall : Nfk.madeI (l.take k ++ [x]) = Nfk.madeI (l.take k) ++ Dcp.fullI x := made_snoc _ _
      rw [← hsn] at hall
      obtain ⟨m, hm⟩ : ∃ m, Nfk.madeI (l.take k) = m := ⟨_, rfl⟩
      obtain ⟨f, hf⟩ : ∃ f, Dcp.fullI x = f := ⟨_, rfl⟩
      have hfull := rfull_free x
      rw [hm] at hown hall hlen
      rw [hf] at hall hlx hfull
      have hmk : m.length ≤ 4 * l.length := by rw [List.length_take] at hlen; omega
      replace hall := Lib.hid hall
      replace hown := Lib.hid hown
      replace hbel := Lib.hid hbel
      replace hfull := Lib.hid hfull
      clear hcell hsn hx hm hf hlen
      go_wp2_with fail
      refine (hfull.out _).mono ?_
      rintro e w1 ⟨vf, rfl, hvf, hb1⟩
      have hown1 := Lib.hid (ownI_below hown.out hb1)
      have hbel1 := Lib.hid (below_on hbel.out hb1)
      have hsrc := Lib.hid (ri_src hvf)
      clear hvf hb1
      go_wp2_with (at_builtin; refine wpList_append_src rfl _ _ 22 rfl w.heap.size 3 i0 (.int .i64 0) 8 Tryd.underlying22 hi hz0 hz1 hz2 rfl _ _ _ rfl hown1.out _ _ rfl hsrc.out (oneCellI _) (by simp only [List.length_map, List.length_append, List.length_take, List.length_drop, List.length_cons, List.length_nil, List.length_singleton]; unfold maxLen; omega) (by simp only [List.length_map, List.length_append, List.length_take, List.length_drop, List.length_cons, List.length_nil, List.length_singleton]; omega) hbel1.out.size ?_; intro v5 w5 ho5 hg5; have o5 := Lib.hid (ownI_of_row (l := m ++ f) ho5 (by (try simp); try omega) (by (try simp); try omega)); have b5 := Lib.hid (below_row hbel1.out hg5 hbel1.out.size hown1.out (Nat.le_refl _)); clear ho5 hg5)
      go_roundg (l.length - (k + 1))
      case measure => omega
      case rel => exact ⟨k + 1, by omega, by go_num, rfl, by rw [hall.out]; exact o5.out, b5.out⟩
    · obtain rfl : k = l.length := by omega
      have hlt' : decide ((l.length : Int) < (l.length : Int)) = false := by simp
      rw [List.take_length] at hown
      replace hown := Lib.hid hown
      replace hbel := Lib.hid hbel
      go_wp2_with fail
      go_ret
      exact ⟨_, rfl, hown.out, hbel.out⟩

set_option maxHeartbeats 3200000 in
set_option maxRecDepth 100000 in
theorem rsafe_any (v : Value) (l : List Int) (w : World) (hl : l.length ≤ 1000000) (hv : RI w v l) : Calls Tryd.prog 14 #[v] w (Makes (Nfk.safeI l 0) w) := by
  obtain ⟨i0, hi, hz0, hz1, hz2⟩ := info_parts info_i
  obtain ⟨p, cap, rfl⟩ := ri_form hv
  replace hv := Lib.hid hv
  obtain ⟨S, hS⟩ : ∃ S, Nfk.safeI l 0 = S := ⟨_, rfl⟩
  rw [hS]
  replace hS := Lib.hid hS
  go_enter Tryd.func14, Tryd.ntmps14
  go_wp2_with fail
  go_loopg [3, 4, 5] l.length (fun g vo vn vi wr => ∃ (k n : Nat) (m : List Int), k ≤ l.length ∧ vi = .int .i64 k ∧ vn = .int .i64 n ∧ n ≤ 30 ∧ g = l.length - k ∧ OwnI w.heap.size vo m wr ∧ m.length ≤ 2 * k ∧ Hid (m ++ Nfk.safeI (l.drop k) n = S) ∧ Below w.heap.size w wr)
  case atStart => exact ⟨0, 0, [], Nat.zero_le _, rfl, rfl, by omega, rfl, ownI_nil _ _, by simp, Lib.hid (by rw [List.drop_zero, List.nil_append]; exact hS.out), Below.refl _ _⟩
  case round =>
    obtain ⟨k, n, m, hk, rfl, rfl, hn30, rfl, hown, hmk, hsf, hbel⟩ := hrel
    by_cases hlt : k < l.length
    · have hlt' : (k : Int) < (l.length : Int) := by omega
      obtain ⟨b, off, rfl, hb, hcell⟩ := ri_at hv.out (by omega)
      have hc0 := hcell k hlt
      obtain ⟨x, hx⟩ : ∃ x, l[k] = x := ⟨_, rfl⟩
      have hdr : l.drop k = x :: l.drop (k + 1) := by rw [List.drop_eq_getElem_cons hlt, hx]
      rw [hx] at hc0
      replace hc0 := Lib.hid hc0
      have hc : wr.cell? ⟨b, off + k, none⟩ = some (.int .i64 x) := (hbel.cell hb).trans hc0.out
      have hs := hsf.out
      rw [hdr, Nfk.safeI] at hs
      have hmx := rmark_any x
      clear hcell hx hdr hsf
      cases hmb : Prp.mrkB x with
      | true =>
        rw [hmb] at hmx hs
        simp only [if_true] at hs
        replace hmx := Lib.hid hmx
        replace hbel := Lib.hid hbel
        replace hown := Lib.hid hown
        clear hmb
        by_cases h30 : n = 30
        · rw [if_pos h30] at hs
          replace hs := Lib.hid hs
          have e31 : (n : Int) + 1 = 31 := by omega
          replace h30 := Lib.hid h30
          go_upto_region 10 with (go_at_call 27; refine (hmx.out _).mono ?_; rintro e w2 ⟨rfl, hb2⟩; have o2 := Lib.hid (ownI_alloc (ownI_below hown.out hb2) (.cells #[.int .i64 847] 3)); replace hb2 := Lib.hid (below_on hbel.out hb2))
          have b2 := Lib.hid (hb2.out.alloc hb2.out.size (.cells #[.int .i64 847] 3))
          have s2 := Lib.hid (ri_src (ri_of_own (ownI_lit w.heap.size w2 [847] #[.int .i64 847] w2.heap.size 1 rfl hb2.out.size rfl rfl (by unfold maxLen; omega))))
          go_upto_region 11 with (at_builtin; refine wpList_append_src rfl _ _ 22 rfl w.heap.size 3 i0 (.int .i64 0) 8 Tryd.underlying22 hi hz0 hz1 hz2 rfl _ _ _ rfl o2.out _ _ rfl s2.out (oneCellI _) (by simp only [List.length_map, List.length_append, List.length_take, List.length_drop, List.length_cons, List.length_nil, List.length_singleton]; unfold maxLen; omega) (by simp only [List.length_map, List.length_append, List.length_take, List.length_drop, List.length_cons, List.length_nil, List.length_singleton]; omega) b2.out.size ?_; intro v5 w5 ho5 hg5; have o5 := Lib.hid (ownI_of_row (l := m ++ [847]) ho5 (by (try simp); try omega) (by (try simp); try omega)); have b5 := Lib.hid (below_row b2.out hg5 b2.out.size o2.out (Nat.le_refl _)); clear ho5 hg5)
          have hc5 : w5.cell? ⟨b, off + k, none⟩ = some (.int .i64 x) := (b5.out.cell hb).trans hc0.out
          have o6 := Lib.hid (ownI_alloc o5.out (.cells #[.int .i64 x] 3))
          have b6 := Lib.hid (b5.out.alloc b5.out.size (.cells #[.int .i64 x] 3))
          have s6 := Lib.hid (ri_src (ri_of_own (ownI_lit w.heap.size w5 [x] #[.int .i64 x] w5.heap.size 1 rfl b5.out.size rfl rfl (by unfold maxLen; omega))))
          go_wp2_with (at_builtin; refine wpList_append_src rfl _ _ 22 rfl w.heap.size 3 i0 (.int .i64 0) 8 Tryd.underlying22 hi hz0 hz1 hz2 rfl _ _ _ rfl o6.out _ _ rfl s6.out (oneCellI _) (by simp only [List.length_map, List.length_append, List.length_take, List.length_drop, List.length_cons, List.length_nil, List.length_singleton]; unfold maxLen; omega) (by simp only [List.length_map, List.length_append, List.length_take, List.length_drop, List.length_cons, List.length_nil, List.length_singleton]; omega) b6.out.size ?_; intro v7 w7 ho7 hg7; have o7 := Lib.hid (ownI_of_row (l := (m ++ [847]) ++ [x]) ho7 (by (try simp); try omega) (by (try simp); try omega)); have b7 := Lib.hid (below_row b6.out hg7 b6.out.size o6.out (Nat.le_refl _)); clear ho7 hg7)
          go_roundg (l.length - (k + 1))
          case measure => omega
          case rel => exact ⟨k + 1, 1, (m ++ [847]) ++ [x], by omega, by go_num, rfl, by omega, rfl, o7.out, by simp; omega, Lib.hid (by have := hs.out; simpa using this), b7.out⟩
        · rw [if_neg h30] at hs
          replace hs := Lib.hid hs
          have e31 : ((n : Int) + 1 == 31) = false := beq_eq_false_iff_ne.2 (by omega)
          have hn29 : n ≤ 29 := by omega
          go_upto_region 12 with (go_at_call 27; refine (hmx.out _).mono ?_; rintro e w2 ⟨rfl, hb2⟩; have o2 := Lib.hid (ownI_alloc (ownI_below hown.out hb2) (.cells #[.int .i64 x] 3)); replace hb2 := Lib.hid (below_on hbel.out hb2))
          have b2 := Lib.hid (hb2.out.alloc hb2.out.size (.cells #[.int .i64 x] 3))
          have s2 := Lib.hid (ri_src (ri_of_own (ownI_lit w.heap.size w2 [x] #[.int .i64 x] w2.heap.size 1 rfl hb2.out.size rfl rfl (by unfold maxLen; omega))))
          have hc2 : w2.cell? ⟨b, off + k, none⟩ = some (.int .i64 x) := (hb2.out.cell hb).trans hc0.out
          go_wp2_with (at_builtin; refine wpList_append_src rfl _ _ 22 rfl w.heap.size 3 i0 (.int .i64 0) 8 Tryd.underlying22 hi hz0 hz1 hz2 rfl _ _ _ rfl o2.out _ _ rfl s2.out (oneCellI _) (by simp only [List.length_map, List.length_append, List.length_take, List.length_drop, List.length_cons, List.length_nil, List.length_singleton]; unfold maxLen; omega) (by simp only [List.length_map, List.length_append, List.length_take, List.length_drop, List.length_cons, List.length_nil, List.length_singleton]; omega) b2.out.size ?_; intro v5 w5 ho5 hg5; have o5 := Lib.hid (ownI_of_row (l := m ++ [x]) ho5 (by (try simp); try omega) (by (try simp); try omega)); have b5 := Lib.hid (below_row b2.out hg5 b2.out.size o2.out (Nat.le_refl _)); clear ho5 hg5)
          go_roundg (l.length - (k + 1))
          case measure => omega
          case rel => exact ⟨k + 1, n + 1, m ++ [x], by omega, by go_num, by go_num, by omega, rfl, o5.out, by simp; omega, Lib.hid (by have := hs.out; simpa using this), b5.out⟩
      | false =>
        rw [hmb] at hmx hs
        simp only [Bool.false_eq_true, if_false] at hs
        replace hmx := Lib.hid hmx
        replace hs := Lib.hid hs
        replace hbel := Lib.hid hbel
        replace hown := Lib.hid hown
        clear hmb
        go_upto_region 12 with (go_at_call 27; refine (hmx.out _).mono ?_; rintro e w2 ⟨rfl, hb2⟩; have o2 := Lib.hid (ownI_alloc (ownI_below hown.out hb2) (.cells #[.int .i64 x] 3)); replace hb2 := Lib.hid (below_on hbel.out hb2))
        have b2 := Lib.hid (hb2.out.alloc hb2.out.size (.cells #[.int .i64 x] 3))
        have s2 := Lib.hid (ri_src (ri_of_own (ownI_lit w.heap.size w2 [x] #[.int .i64 x] w2.heap.size 1 rfl hb2.out.size rfl rfl (by unfold maxLen; omega))))
        have hc2 : w2.cell? ⟨b, off + k, none⟩ = some (.int .i64 x) := (hb2.out.cell hb).trans hc0.out
        go_wp2_with (at_builtin; refine wpList_append_src rfl _ _ 22 rfl w.heap.size 3 i0 (.int .i64 0) 8 Tryd.underlying22 hi hz0 hz1 hz2 rfl _ _ _ rfl o2.out _ _ rfl s2.out (oneCellI _) (by simp only [List.length_map, List.length_append, List.length_take, List.length_drop, List.length_cons, List.length_nil, List.length_singleton]; unfold maxLen; omega) (by simp only [List.length_map, List.length_append, List.length_take, List.length_drop, List.length_cons, List.length_nil, List.length_singleton]; omega) b2.out.size ?_; intro v5 w5 ho5 hg5; have o5 := Lib.hid (ownI_of_row (l := m ++ [x]) ho5 (by (try simp); try omega) (by (try simp); try omega)); have b5 := Lib.hid (below_row b2.out hg5 b2.out.size o2.out (Nat.le_refl _)); clear ho5 hg5)
        go_roundg (l.length - (k + 1))
        case measure => omega
        case rel => exact ⟨k + 1, 0, m ++ [x], by omega, by go_num, rfl, by omega, rfl, o5.out, by simp; omega, Lib.hid (by have := hs.out; simpa using this), b5.out⟩
    · obtain rfl : k = l.length := by omega
      have hlt' : decide ((l.length : Int) < (l.length : Int)) = false := by simp
      have hs := hsf.out
      rw [List.drop_length, Nfk.safeI, List.append_nil] at hs
      subst hs
      replace hown := Lib.hid hown
      replace hbel := Lib.hid hbel
      clear hsf hS
      go_wp2_with fail
      go_ret
      exact ⟨_, rfl, hown.out, hbel.out⟩

theorem rsafe_len (l : List Int) : (Nfk.safeI l 0).length ≤ 2 * l.length := by
  have h := Nfk.safe_len l 0 (by omega)
  omega

set_option maxHeartbeats 800000 in
set_option maxRecDepth 100000 in
theorem rnfkd_any (v : Value) (l : List Int) (w : World) (hl : l.length ≤ 100000) (hv : RI w v l) : Calls Tryd.prog 16 #[v] w (Makes (Nfk.nfkdI l) w) := by
  have h1 := Lib.hid (rmade_any v l w (by omega) hv)
  have hm := made_lenR l
  unfold Nfk.nfkdI
  obtain ⟨m, hm0⟩ : ∃ m, Nfk.madeI l = m := ⟨_, rfl⟩
  rw [hm0] at h1 hm ⊢
  have hsl := rsafe_len m
  obtain ⟨s, hs0⟩ : ∃ s, Nfk.safeI m 0 = s := ⟨_, rfl⟩
  rw [hs0] at hsl ⊢
  obtain ⟨o, ho0⟩ : ∃ o, Can.orderI s = o := ⟨_, rfl⟩
  rw [ho0]
  replace hs0 := Lib.hid hs0
  replace ho0 := Lib.hid ho0
  clear hm0
  go_enter Tryd.func16, Tryd.ntmps16
  go_wp2_with fail
  refine h1.out.mono ?_
  rintro e w1 ⟨v1, rfl, ho1, hb1⟩
  have h2 := rsafe_any v1 m w1 (by omega) (ri_of_own ho1)
  rw [hs0.out] at h2
  replace h2 := Lib.hid h2
  replace hb1 := Lib.hid hb1
  clear ho1
  go_wp2_with fail
  refine h2.out.mono ?_
  rintro e w2 ⟨v2, rfl, ho2, hb2⟩
  have h3 := rorder_any v2 s w2 (by omega) (ri_of_own ho2)
  rw [ho0.out] at h3
  replace h3 := Lib.hid h3
  replace hb2 := Lib.hid (below_on hb1.out hb2)
  clear ho2
  go_wp2_with fail
  refine h3.out.mono ?_
  rintro e w3 ⟨v3, rfl, ho3, hb3⟩
  have ho3' := Lib.hid (ownI_mono ho3 hb2.out.size)
  replace hb3 := Lib.hid (below_on hb2.out hb3)
  clear ho3
  go_wp2_with fail
  go_ret
  exact ⟨_, rfl, ho3'.out, hb3.out⟩

theorem nfkd_len (l : List Int) : (Nfk.nfkdI l).length ≤ 8 * l.length := by
  unfold Nfk.nfkdI
  rw [Can.orderI_len]
  have h1 := rsafe_len (Nfk.madeI l)
  have h2 := made_lenR l
  omega
theorem nfkc_len (l : List Int) : (Nfk.nfkcI l).length ≤ 8 * l.length := by
  have h1 := Can.compose_le (Nfk.nfkdI l)
  have h2 := nfkd_len l
  unfold Nfk.nfkcI
  omega

set_option maxHeartbeats 800000 in
set_option maxRecDepth 100000 in
theorem rnfkc_any (v : Value) (l : List Int) (w : World) (hl : l.length ≤ 100000) (hv : RI w v l) : Calls Tryd.prog 18 #[v] w (Makes (Nfk.nfkcI l) w) := by
  have h1 := Lib.hid (rnfkd_any v l w (by omega) hv)
  have hm := nfkd_len l
  unfold Nfk.nfkcI
  obtain ⟨m, hm0⟩ : ∃ m, Nfk.nfkdI l = m := ⟨_, rfl⟩
  rw [hm0] at h1 hm ⊢
  obtain ⟨o, ho0⟩ : ∃ o, Can.composeI m = o := ⟨_, rfl⟩
  rw [ho0]
  replace ho0 := Lib.hid ho0
  clear hm0
  go_enter Tryd.func18, Tryd.ntmps18
  go_wp2_with fail
  refine h1.out.mono ?_
  rintro e w1 ⟨v1, rfl, ho1, hb1⟩
  have h2 := rcompose_any v1 m w1 (by omega) (ri_of_own ho1)
  rw [ho0.out] at h2
  replace h2 := Lib.hid h2
  replace hb1 := Lib.hid hb1
  clear ho1
  go_wp2_with fail
  refine h2.out.mono ?_
  rintro e w3 ⟨v3, rfl, ho3, hb3⟩
  have ho3' := Lib.hid (ownI_mono ho3 hb1.out.size)
  replace hb3 := Lib.hid (below_on hb1.out hb3)
  clear ho3
  go_wp2_with fail
  go_ret
  exact ⟨_, rfl, ho3'.out, hb3.out⟩

set_option maxHeartbeats 800000 in
set_option maxRecDepth 100000 in
theorem rformIs_any (v : Value) (l : List Int) (w : World) (hl : l.length ≤ 10000) (hv : RI w v l) : Calls Tryd.prog 20 #[v] w fun e w' => e = .returned (.bool (sameB (Nfk.nfkcI l) l)) ∧ Below w.heap.size w w' := by
  have ho := Lib.hid (rnfkc_any v l w (by omega) hv)
  have hlen := nfkc_len l
  obtain ⟨m, hm⟩ : ∃ m, Nfk.nfkcI l = m := ⟨_, rfl⟩
  rw [hm] at ho hlen ⊢
  have hml : m.length ≤ 100000 := by omega
  replace hv := Lib.hid hv
  clear hm hlen
  go_enter Tryd.func20, Tryd.ntmps20
  go_wp2_with fail
  refine ho.out.mono ?_
  rintro e w1 ⟨v1, rfl, ho1, hb1⟩
  have hsame := Lib.hid (same_any v1 v m l w1 hml (ri_of_own ho1) (ri_below hv.out hb1))
  replace hb1 := Lib.hid hb1
  clear ho1
  go_wp2_with fail
  refine hsame.out.mono ?_
  rintro e w2 ⟨rfl, n, rfl⟩
  have hb2 := Lib.hid (below_on hb1.out (drewN_below w1 n))
  go_wp2_with fail
  go_ret
  exact ⟨rfl, hb2.out⟩

end Go.Proofs.YtgilifcpmnbhjaaDoor
