/- Layer 1: the walk of DecIs, of what is short enough. -/
import Derived.Test.YtcchcgllgodkhaaDoorRA9
import Derived.Test.YtcchcgllgodkhaaDoorK5
import Derived.Deep.QuietTactic
import Derived.BigQuiet
namespace Go.Proofs.YtcchcgllgodkhaaDoor
open Go.RowKit Go.Lib

set_option maxHeartbeats 3200000 in
theorem decIs_short (s : ByteArray) (sl : List UInt8) (hsl : s.data.toList = sl) (c : UInt8) (v1 : Value) (bs : List UInt8) (v2 : Value) (l : List Int) (w : World) (hT : Lib.Utf8Tabs 0 1 w)
    (h1 : s.size ≤ 100) (h2 : bs.length ≤ 400) (h3 : l.length ≤ 200) (hr1 : RBytes w v1 bs) (hr2 : RInts w v2 l) :
    Calls Tryd.prog 3 #[.agg #[.string s], .int .u8 c.toNat, v1, v2] w (BoolRes true w) := by
  have hsn : sl.length ≤ 100 := by rw [← hsl]; exact h1
  obtain ⟨p1, c1, rfl⟩ := bytes_form hr1
  obtain ⟨p2, c2, rfl⟩ := ints_form hr2
  have hp2 := Lib.hid (ints_at hr2)
  replace hT := Lib.hid hT
  replace hr1 := Lib.hid hr1
  replace hr2 := Lib.hid hr2
  replace hsl := Lib.hid hsl
  have haw := Lib.hid (awake_any (w.alloc (.cells #[.string s] 23)) (tabs_alloc hT.out _))
  have h1' : decide ((100 : Int) < (s.size : Int)) = false := by simp; omega
  have h2' : decide ((400 : Int) < (bs.length : Int)) = false := by simp; omega
  have h3' : decide ((200 : Int) < (l.length : Int)) = false := by simp; omega
  go_enter Tryd.func3, Tryd.ntmps3
  go_wp2_with fail
  refine haw.out.mono ?_
  rintro e w1 ⟨rfl, hb1⟩
  have hX0 := Lib.hid (box_below (box_new w (.string s) 23) hb1)
  obtain ⟨z0, q0, r0⟩ := hX0.out
  replace hb1 := Lib.hid (below_in hb1)
  clear haw
  go_wp2_with fail
  go_loopg [10] l.length (fun g i wr => ∃ k : Nat, k ≤ l.length ∧ g = l.length - k ∧ i = .int .i64 k ∧ Below w1.heap.size w1 wr)
  case atStart => exact ⟨0, Nat.zero_le _, rfl, rfl, Below.refl _ _⟩
  case round =>
    obtain ⟨k, hk, rfl, rfl, hbel⟩ := hrel
    clear z0 q0 r0
    by_cases hlt : k < l.length
    · obtain ⟨x, hx⟩ : ∃ x, l[k] = x := ⟨_, rfl⟩
      obtain ⟨b, off, rfl, hb, hc⟩ := hp2.out (by omega)
      have hcell : wr.cell? ⟨b, off + k, none⟩ = some (.int .i64 x) := by
        rw [hbel.cell (Nat.lt_of_lt_of_le hb hb1.out.size), hb1.out.cell hb, ← hx]
        exact hc k hlt
      clear hc hx
      have hlt' : (k : Int) < (l.length : Int) := by omega
      replace hbel := Lib.hid hbel
      go_wp2_with fail
      go_quiet ((first | (go_at_call 5; exact Calls.quiet_of_same ((good_any x _).mono fun _ _ h => ⟨h.1, h.2.symm⟩)) | (go_at_call 6; exact Calls.quiet_of_same ((rgood_any x _).mono fun _ _ h => ⟨h.1, h.2.symm⟩))))
      go_wp2_with fail
      go_roundg (l.length - (k + 1))
      case measure => omega
      case rel => exact ⟨k + 1, by omega, rfl, by go_num, below_trans0 hbel.out (drewN_below wr _)⟩
    · have hlt' : decide ((k : Int) < (l.length : Int)) = false := by simp; omega
      have hX1 := Lib.hid (box_below hX0.out hbel)
      obtain ⟨z0, q0, r0⟩ := hX1.out
      have hbel1 := Lib.hid (below_trans0 hb1.out hbel)
      clear hbel hX0 hb1
      have hx1 := Lib.hid (box_new wr (.string s) 28)
      go_wp2_with fail
      refine (dfeed_any s sl hsl.out c _ (tabs_alloc (Utf8Tabs_below hT.out hbel1.out) _)).mono ?_
      rintro e w2 ⟨T, m, rfl, hTl, hownM, hb2⟩
      have hbel2 := Lib.hid (below_trans0 hbel1.out (below_in hb2))
      have hX2 := Lib.hid (box_below (box_alloc hX1.out _) hb2)
      have hx2 := Lib.hid (box_below hx1.out hb2)
      have hz2 : wr.heap.size < w2.heap.size := hx2.out.1
      clear z0 q0 r0 hX1 hx1 hb2
      obtain ⟨z0, q0, r0⟩ := hX2.out
      have ht2 := Lib.hid (box_new w2 (.string T) 28)
      go_wp2_with fail
      refine (rfeed_any s sl hsl.out (by omega) c _).mono ?_
      rintro e w3 ⟨U, n, rfl, hUl, hownN, hb3⟩
      obtain rfl : T = U := Go.WideShapes.bytes_inj (hTl.trans hUl.symm)
      obtain ⟨L, hL⟩ : ∃ L, (Dec.feedL sl c).2 = L := ⟨_, rfl⟩
      have hfl := feedL_len sl c
      rw [hL] at hownM hownN hfl
      have hbel3 := Lib.hid (below_trans0 hbel2.out (below_in hb3))
      have hX3 := Lib.hid (box_below (box_alloc hX2.out _) hb3)
      have hx3 := Lib.hid (box_below (box_alloc hx2.out _) hb3)
      have ht3 := Lib.hid (box_below ht2.out hb3)
      have hz3 : w2.heap.size < w3.heap.size := ht3.out.1
      have hrm3 := Lib.hid (ints_below (ints_of_own hownM) (below_in hb3))
      have hrn3 := Lib.hid (ints_of_own hownN)
      obtain ⟨pm, cm, rfl⟩ := ints_form hrm3.out
      obtain ⟨pn, cn, rfl⟩ := ints_form hrn3.out
      clear z0 q0 r0 hX2 hx2 ht2 hb3 hTl hUl hL hownM hownN
      go_wp2_with fail
      -- region 12
      obtain ⟨W, hW⟩ : ∃ W, w3.alloc (Obj.cells #[Value.string T] 23) = W := ⟨_, rfl⟩
      have H4 : W.cell? ⟨wr.heap.size, 0, none⟩ = some (.string s) ∧ W.cell? ⟨w.heap.size, 0, none⟩ = some (.string s) ∧ W.cell? ⟨w2.heap.size, 0, none⟩ = some (.string T) ∧ W.cell? ⟨w3.heap.size, 0, none⟩ = some (.string T) := by
        rw [← hW]
        exact ⟨(box_alloc hx3.out _).2.1, (box_alloc hX3.out _).2.1, (box_alloc ht3.out _).2.1, (box_new w3 (.string T) _).2.1⟩
      have hbelW := Lib.hid (show Below w.heap.size w W by rw [← hW]; exact hbel3.out.alloc hbel3.out.size _)
      have hrmW := Lib.hid (show RInts W _ L by rw [← hW]; exact ints_below hrm3.out (below_new _ _))
      have hrnW := Lib.hid (show RInts W _ L by rw [← hW]; exact ints_below hrn3.out (below_new _ _))
      have hel := Lib.hid (show (Dec.endLL sl).length ≤ 100000 by unfold Dec.endLL; split <;> simp)
      have hal := Lib.hid (all_len bs (by omega))
      replace H4 := Lib.hid H4
      rw [hW]
      clear hW hX3 hx3 ht3 hrm3 hrn3 hbel3 hbel2 hbel1 hz2 hz3
      refine wp_region_held_drew (S := fun w' => w'.cell? ⟨wr.heap.size, 0, none⟩ = some (.string s) ∧ w'.cell? ⟨w.heap.size, 0, none⟩ = some (.string s) ∧ w'.cell? ⟨w2.heap.size, 0, none⟩ = some (.string T) ∧ w'.cell? ⟨w3.heap.size, 0, none⟩ = some (.string T)) (by kernel_rfl) (H4.out) (fun hS => ?_)
      refine' wpAnyH_take (i := 0) (oi := ⟨_, _, _, _, _, _⟩) (v := _) rfl (by kernel_rfl) (by kernel_rfl) (by kernel_rfl) (fun _ _ _ h => h) (Or.inl ⟨by rfl, ?hy0⟩) hS ?rest0
      case hy0 => (intro wz hSw; (try dsimp only at hSw); go_simp; try with_reducible rfl)
      try simp only [Act.put, List.setIfInBounds_toArray, List.set_cons_zero, List.set_cons_succ]
      refine' wpAnyH_take (i := 1) (oi := ⟨_, _, _, _, _, _⟩) (v := _) rfl (by kernel_rfl) (by kernel_rfl) (by kernel_rfl) (fun _ _ _ h => h) (Or.inl ⟨by rfl, ?hy1⟩) hS ?rest1
      case hy1 => (intro wz hSw; (try dsimp only at hSw); go_simp; try with_reducible rfl)
      try simp only [Act.put, List.setIfInBounds_toArray, List.set_cons_zero, List.set_cons_succ]
      refine' wpAnyH_take (i := 2) (oi := ⟨_, _, _, _, _, _⟩) (v := _) rfl (by kernel_rfl) (by kernel_rfl) (by kernel_rfl) (fun _ _ _ h => h) (Or.inl ⟨by rfl, ?hy2⟩) hS ?rest2
      case hy2 => (intro wz hSw; (try dsimp only at hSw); go_simp; try with_reducible rfl)
      try simp only [Act.put, List.setIfInBounds_toArray, List.set_cons_zero, List.set_cons_succ]
      refine' wpAnyH_take (i := 4) (oi := ⟨_, _, _, _, _, _⟩) (v := _) rfl (by kernel_rfl) (by kernel_rfl) (by kernel_rfl) (fun _ _ _ h => h) (Or.inl ⟨by rfl, ?hy4⟩) hS ?rest4
      case hy4 => (intro wz hSw; (try dsimp only at hSw); go_simp; try with_reducible rfl)
      try simp only [Act.put, List.setIfInBounds_toArray, List.set_cons_zero, List.set_cons_succ]
      refine wpAnyH_ready (rs := [3]) (by kernel_rfl) (by simp) (AllReadyH.cons rfl (fun K hK => ?_) AllReadyH.nil)
      go_simp
      refine (dsane_any s sl hsl.out _ (Utf8Tabs_below hT.out hbelW.out.drew)).mono ?_
      rintro e w5 ⟨rfl, hb5⟩
      have hW5 := Lib.hid (below_trans0 (below_drew W) hb5)
      clear hb5
      go_wp2_with fail
      refine hK.out _ _ (four_below H4.out hW5.out) (fun hSn => ?_)
      clear hS
      have hS := hSn
      clear hSn
      clear hK K
      try simp only [Act.put, List.setIfInBounds_toArray, List.set_cons_zero, List.set_cons_succ]
      refine wpAnyH_ready (rs := [5]) (by kernel_rfl) (by simp) (AllReadyH.cons rfl (fun K hK => ?_) AllReadyH.nil)
      go_simp
      refine (rsane_any s sl hsl.out (by omega) _).mono ?_
      rintro e w6 ⟨rfl, hb6⟩
      have hW6 := Lib.hid (below_trans0 hW5.out hb6)
      clear hb6
      go_wp2_with fail
      refine hK.out _ _ (four_below H4.out hW6.out) (fun hSn => ?_)
      clear hS
      have hS := hSn
      clear hSn
      clear hK K
      try simp only [Act.put, List.setIfInBounds_toArray, List.set_cons_zero, List.set_cons_succ]
      refine' wpAnyH_take (i := 6) (oi := ⟨_, _, _, _, _, _⟩) (v := _) rfl (by kernel_rfl) (by kernel_rfl) (by kernel_rfl) (fun _ _ _ h => h) (Or.inl ⟨by rfl, ?hy6⟩) hS ?rest6
      case hy6 => (intro wz hSw; (try dsimp only at hSw); go_simp; try with_reducible rfl)
      try simp only [Act.put, List.setIfInBounds_toArray, List.set_cons_zero, List.set_cons_succ]
      refine' wpAnyH_take (i := 7) (oi := ⟨_, _, _, _, _, _⟩) (v := _) rfl (by kernel_rfl) (by kernel_rfl) (by kernel_rfl) (fun _ _ _ h => h) (Or.inl ⟨by rfl, ?hy7⟩) hS ?rest7
      case hy7 => (intro wz hSw; (try dsimp only at hSw); go_simp; try with_reducible rfl)
      try simp only [Act.put, List.setIfInBounds_toArray, List.set_cons_zero, List.set_cons_succ]
      refine' wpAnyH_take (i := 8) (oi := ⟨_, _, _, _, _, _⟩) (v := _) rfl (by kernel_rfl) (by kernel_rfl) (by kernel_rfl) (fun _ _ _ h => h) (Or.inl ⟨by rfl, ?hy8⟩) hS ?rest8
      case hy8 => (intro wz hSw; (try dsimp only at hSw); go_simp; try with_reducible rfl)
      try simp only [Act.put, List.setIfInBounds_toArray, List.set_cons_zero, List.set_cons_succ]
      refine' wpAnyH_take (i := 9) (oi := ⟨_, _, _, _, _, _⟩) (v := _) rfl (by kernel_rfl) (by kernel_rfl) (by kernel_rfl) (fun _ _ _ h => h) (Or.inl ⟨by rfl, ?hy9⟩) hS ?rest9
      case hy9 => (intro wz hSw; (try dsimp only at hSw); go_simp; try with_reducible rfl)
      try simp only [Act.put, List.setIfInBounds_toArray, List.set_cons_zero, List.set_cons_succ]
      refine' wpAnyH_take (i := 10) (oi := ⟨_, _, _, _, _, _⟩) (v := _) rfl (by kernel_rfl) (by kernel_rfl) (by kernel_rfl) (fun _ _ _ h => h) (Or.inl ⟨by rfl, ?hy10⟩) hS ?rest10
      case hy10 => (intro wz hSw; (try dsimp only at hSw); go_simp; try with_reducible rfl)
      try simp only [Act.put, List.setIfInBounds_toArray, List.set_cons_zero, List.set_cons_succ]
      refine' wpAnyH_take (i := 11) (oi := ⟨_, _, _, _, _, _⟩) (v := _) rfl (by kernel_rfl) (by kernel_rfl) (by kernel_rfl) (fun _ _ _ h => h) (Or.inl ⟨by rfl, ?hy11⟩) hS ?rest11
      case hy11 => (intro wz hSw; (try dsimp only at hSw); go_simp; try with_reducible rfl)
      try simp only [Act.put, List.setIfInBounds_toArray, List.set_cons_zero, List.set_cons_succ]
      refine' wpAnyH_take (i := 12) (oi := ⟨_, _, _, _, _, _⟩) (v := _) rfl (by kernel_rfl) (by kernel_rfl) (by kernel_rfl) (fun _ _ _ h => h) (Or.inl ⟨by rfl, ?hy12⟩) hS ?rest12
      case hy12 => (intro wz hSw; (try dsimp only at hSw); go_simp; try with_reducible rfl)
      try simp only [Act.put, List.setIfInBounds_toArray, List.set_cons_zero, List.set_cons_succ]
      refine' wpAnyH_take (i := 13) (oi := ⟨_, _, _, _, _, _⟩) (v := _) rfl (by kernel_rfl) (by kernel_rfl) (by kernel_rfl) (fun _ _ _ h => h) (Or.inl ⟨by rfl, ?hy13⟩) hS ?rest13
      case hy13 => (intro wz hSw; (try dsimp only at hSw); go_simp; try with_reducible rfl)
      try simp only [Act.put, List.setIfInBounds_toArray, List.set_cons_zero, List.set_cons_succ]
      refine' wpAnyH_take (i := 14) (oi := ⟨_, _, _, _, _, _⟩) (v := _) rfl (by kernel_rfl) (by kernel_rfl) (by kernel_rfl) (fun _ _ _ h => h) (Or.inl ⟨by rfl, ?hy14⟩) hS ?rest14
      case hy14 => (intro wz hSw; (try dsimp only at hSw); go_simp; try with_reducible rfl)
      try simp only [Act.put, List.setIfInBounds_toArray, List.set_cons_zero, List.set_cons_succ]
      refine' wpAnyH_take (i := 15) (oi := ⟨_, _, _, _, _, _⟩) (v := _) rfl (by kernel_rfl) (by kernel_rfl) (by kernel_rfl) (fun _ _ _ h => h) (Or.inl ⟨by rfl, ?hy15⟩) hS ?rest15
      case hy15 => (intro wz hSw; (try dsimp only at hSw); go_simp; try with_reducible rfl)
      try simp only [Act.put, List.setIfInBounds_toArray, List.set_cons_zero, List.set_cons_succ]
      refine' wpAnyH_take (i := 16) (oi := ⟨_, _, _, _, _, _⟩) (v := _) rfl (by kernel_rfl) (by kernel_rfl) (by kernel_rfl) (fun _ _ _ h => h) (Or.inl ⟨by rfl, ?hy16⟩) hS ?rest16
      case hy16 => (intro wz hSw; (try dsimp only at hSw); go_simp; try with_reducible rfl)
      try simp only [Act.put, List.setIfInBounds_toArray, List.set_cons_zero, List.set_cons_succ]
      refine' wpAnyH_take (i := 17) (oi := ⟨_, _, _, _, _, _⟩) (v := _) rfl (by kernel_rfl) (by kernel_rfl) (by kernel_rfl) (fun _ _ _ h => h) (Or.inl ⟨by rfl, ?hy17⟩) hS ?rest17
      case hy17 => (intro wz hSw; (try dsimp only at hSw); go_simp; try with_reducible rfl)
      try simp only [Act.put, List.setIfInBounds_toArray, List.set_cons_zero, List.set_cons_succ]
      refine wpAnyH_ready (rs := [18]) (by kernel_rfl) (by simp) (AllReadyH.cons rfl (fun K hK => ?_) AllReadyH.nil)
      go_simp
      refine (same_yes _ _ L _ (by omega) (ints_below hrmW.out hW6.out) (ints_below hrnW.out hW6.out)).mono ?_
      rintro e w7 ⟨rfl, n7, rfl⟩
      have hW7 := Lib.hid (below_trans0 hW6.out (drewN_below w6 n7))
      go_wp2_with fail
      refine hK.out _ _ (four_below H4.out hW7.out) (fun hSn => ?_)
      clear hS
      have hS := hSn
      clear hSn
      clear hK K
      try simp only [Act.put, List.setIfInBounds_toArray, List.set_cons_zero, List.set_cons_succ]
      refine' wpAnyH_take (i := 19) (oi := ⟨_, _, _, _, _, _⟩) (v := _) rfl (by kernel_rfl) (by kernel_rfl) (by kernel_rfl) (fun _ _ _ h => h) (Or.inl ⟨by rfl, ?hy19⟩) hS ?rest19
      case hy19 => (intro wz hSw; (try dsimp only at hSw); go_simp; try with_reducible rfl)
      try simp only [Act.put, List.setIfInBounds_toArray, List.set_cons_zero, List.set_cons_succ]
      refine' wpAnyH_take (i := 20) (oi := ⟨_, _, _, _, _, _⟩) (v := _) rfl (by kernel_rfl) (by kernel_rfl) (by kernel_rfl) (fun _ _ _ h => h) (Or.inl ⟨by rfl, ?hy20⟩) hS ?rest20
      case hy20 => (intro wz hSw; (try dsimp only at hSw); go_simp; try with_reducible rfl)
      try simp only [Act.put, List.setIfInBounds_toArray, List.set_cons_zero, List.set_cons_succ]
      refine' wpAnyH_take (i := 21) (oi := ⟨_, _, _, _, _, _⟩) (v := _) rfl (by kernel_rfl) (by kernel_rfl) (by kernel_rfl) (fun _ _ _ h => h) (Or.inl ⟨by rfl, ?hy21⟩) hS ?rest21
      case hy21 => (intro wz hSw; (try dsimp only at hSw); go_simp; try with_reducible rfl)
      try simp only [Act.put, List.setIfInBounds_toArray, List.set_cons_zero, List.set_cons_succ]
      refine' wpAnyH_take (i := 23) (oi := ⟨_, _, _, _, _, _⟩) (v := _) rfl (by kernel_rfl) (by kernel_rfl) (by kernel_rfl) (fun _ _ _ h => h) (Or.inl ⟨by rfl, ?hy23⟩) hS ?rest23
      case hy23 => (intro wz hSw; (try dsimp only at hSw); go_simp; try with_reducible rfl)
      try simp only [Act.put, List.setIfInBounds_toArray, List.set_cons_zero, List.set_cons_succ]
      refine wpAnyH_ready (rs := [22]) (by kernel_rfl) (by simp) (AllReadyH.cons rfl (fun K hK => ?_) AllReadyH.nil)
      go_simp
      refine (dend_any s sl hsl.out _ (Utf8Tabs_below hT.out (below_trans0 hbelW.out hW7.out))).mono ?_
      rintro e w8 ⟨v8, rfl, hown8, hb8⟩
      have hr8 := Lib.hid (ints_of_own hown8)
      have hW8 := Lib.hid (below_trans0 hW7.out hb8)
      clear hb8 hown8
      go_wp2_with fail
      refine hK.out _ _ (four_below H4.out hW8.out) (fun hSn => ?_)
      clear hS
      have hS := hSn
      clear hSn
      clear hK K
      try simp only [Act.put, List.setIfInBounds_toArray, List.set_cons_zero, List.set_cons_succ]
      refine wpAnyH_ready (rs := [24]) (by kernel_rfl) (by simp) (AllReadyH.cons rfl (fun K hK => ?_) AllReadyH.nil)
      go_simp
      refine (rend_any s sl hsl.out (by omega) _).mono ?_
      rintro e w9 ⟨v9, rfl, hown9, hb9⟩
      have hr8' := Lib.hid (ints_below hr8.out hb9)
      have hr9 := Lib.hid (ints_of_own hown9)
      have hW9 := Lib.hid (below_trans0 hW8.out hb9)
      clear hb9 hown9 hr8
      go_wp2_with fail
      refine hK.out _ _ (four_below H4.out hW9.out) (fun hSn => ?_)
      clear hS
      have hS := hSn
      clear hSn
      clear hK K
      try simp only [Act.put, List.setIfInBounds_toArray, List.set_cons_zero, List.set_cons_succ]
      refine wpAnyH_ready (rs := [25]) (by kernel_rfl) (by simp) (AllReadyH.cons rfl (fun K hK => ?_) AllReadyH.nil)
      go_simp
      refine (same_yes _ _ (Dec.endLL sl) _ hel.out hr8'.out hr9.out).mono ?_
      rintro e w10 ⟨rfl, n10, rfl⟩
      have hW10 := Lib.hid (below_trans0 hW9.out (drewN_below w9 n10))
      clear hr8' hr9
      go_wp2_with fail
      refine hK.out _ _ (four_below H4.out hW10.out) (fun hSn => ?_)
      clear hS
      have hS := hSn
      clear hSn
      clear hK K
      try simp only [Act.put, List.setIfInBounds_toArray, List.set_cons_zero, List.set_cons_succ]
      refine' wpAnyH_take (i := 26) (oi := ⟨_, _, _, _, _, _⟩) (v := _) rfl (by kernel_rfl) (by kernel_rfl) (by kernel_rfl) (fun _ _ _ h => h) (Or.inl ⟨by rfl, ?hy26⟩) hS ?rest26
      case hy26 => (intro wz hSw; (try dsimp only at hSw); go_simp; try with_reducible rfl)
      try simp only [Act.put, List.setIfInBounds_toArray, List.set_cons_zero, List.set_cons_succ]
      refine' wpAnyH_take (i := 27) (oi := ⟨_, _, _, _, _, _⟩) (v := _) rfl (by kernel_rfl) (by kernel_rfl) (by kernel_rfl) (fun _ _ _ h => h) (Or.inl ⟨by rfl, ?hy27⟩) hS ?rest27
      case hy27 => (intro wz hSw; (try dsimp only at hSw); go_simp; try with_reducible rfl)
      try simp only [Act.put, List.setIfInBounds_toArray, List.set_cons_zero, List.set_cons_succ]
      refine' wpAnyH_take (i := 28) (oi := ⟨_, _, _, _, _, _⟩) (v := _) rfl (by kernel_rfl) (by kernel_rfl) (by kernel_rfl) (fun _ _ _ h => h) (Or.inl ⟨by rfl, ?hy28⟩) hS ?rest28
      case hy28 => (intro wz hSw; (try dsimp only at hSw); go_simp; try with_reducible rfl)
      try simp only [Act.put, List.setIfInBounds_toArray, List.set_cons_zero, List.set_cons_succ]
      refine' wpAnyH_take (i := 30) (oi := ⟨_, _, _, _, _, _⟩) (v := _) rfl (by kernel_rfl) (by kernel_rfl) (by kernel_rfl) (fun _ _ _ h => h) (Or.inl ⟨by rfl, ?hy30⟩) hS ?rest30
      case hy30 => (intro wz hSw; (try dsimp only at hSw); go_simp; try with_reducible rfl)
      try simp only [Act.put, List.setIfInBounds_toArray, List.set_cons_zero, List.set_cons_succ]
      refine wpAnyH_ready (rs := [29]) (by kernel_rfl) (by simp) (AllReadyH.cons rfl (fun K hK => ?_) AllReadyH.nil)
      go_simp
      refine (dall_any _ bs _ (Utf8Tabs_below hT.out (below_trans0 hbelW.out hW10.out)) (by omega) (bytes_below hr1.out (below_trans0 hbelW.out hW10.out))).mono ?_
      rintro e w11 ⟨v11, rfl, hown11, hb11⟩
      have hr11 := Lib.hid (ints_of_own hown11)
      have hW11 := Lib.hid (below_trans0 hW10.out hb11)
      clear hb11 hown11
      go_wp2_with fail
      refine hK.out _ _ (four_below H4.out hW11.out) (fun hSn => ?_)
      clear hS
      have hS := hSn
      clear hSn
      clear hK K
      try simp only [Act.put, List.setIfInBounds_toArray, List.set_cons_zero, List.set_cons_succ]
      refine wpAnyH_ready (rs := [31]) (by kernel_rfl) (by simp) (AllReadyH.cons rfl (fun K hK => ?_) AllReadyH.nil)
      go_simp
      refine (rall_any _ bs _ (by omega) (bytes_below hr1.out (below_trans0 hbelW.out hW11.out))).mono ?_
      rintro e w12 ⟨v12, rfl, hown12, hb12⟩
      have hr11' := Lib.hid (ints_below hr11.out hb12)
      have hr12 := Lib.hid (ints_of_own hown12)
      have hW12 := Lib.hid (below_trans0 hW11.out hb12)
      clear hb12 hown12 hr11
      go_wp2_with fail
      refine hK.out _ _ (four_below H4.out hW12.out) (fun hSn => ?_)
      clear hS
      have hS := hSn
      clear hSn
      clear hK K
      try simp only [Act.put, List.setIfInBounds_toArray, List.set_cons_zero, List.set_cons_succ]
      refine wpAnyH_ready (rs := [32]) (by kernel_rfl) (by simp) (AllReadyH.cons rfl (fun K hK => ?_) AllReadyH.nil)
      go_simp
      refine (same_yes _ _ (Dec.allLL bs) _ hal.out hr11'.out hr12.out).mono ?_
      rintro e w13 ⟨rfl, n13, rfl⟩
      have hW13 := Lib.hid (below_trans0 hW12.out (drewN_below w12 n13))
      clear hr11' hr12
      go_wp2_with fail
      refine hK.out _ _ (four_below H4.out hW13.out) (fun hSn => ?_)
      clear hS
      have hS := hSn
      clear hSn
      clear hK K
      try simp only [Act.put, List.setIfInBounds_toArray, List.set_cons_zero, List.set_cons_succ]
      refine' wpAnyH_take (i := 33) (oi := ⟨_, _, _, _, _, _⟩) (v := _) rfl (by kernel_rfl) (by kernel_rfl) (by kernel_rfl) (fun _ _ _ h => h) (Or.inl ⟨by rfl, ?hy33⟩) hS ?rest33
      case hy33 => (intro wz hSw; (try dsimp only at hSw); go_simp; try with_reducible rfl)
      try simp only [Act.put, List.setIfInBounds_toArray, List.set_cons_zero, List.set_cons_succ]
      refine' wpAnyH_take (i := 34) (oi := ⟨_, _, _, _, _, _⟩) (v := _) rfl (by kernel_rfl) (by kernel_rfl) (by kernel_rfl) (fun _ _ _ h => h) (Or.inl ⟨by rfl, ?hy34⟩) hS ?rest34
      case hy34 => (intro wz hSw; (try dsimp only at hSw); go_simp; try with_reducible rfl)
      try simp only [Act.put, List.setIfInBounds_toArray, List.set_cons_zero, List.set_cons_succ]
      refine' wpAnyH_take (i := 35) (oi := ⟨_, _, _, _, _, _⟩) (v := _) rfl (by kernel_rfl) (by kernel_rfl) (by kernel_rfl) (fun _ _ _ h => h) (Or.inl ⟨by rfl, ?hy35⟩) hS ?rest35
      case hy35 => (intro wz hSw; (try dsimp only at hSw); go_simp; try with_reducible rfl)
      try simp only [Act.put, List.setIfInBounds_toArray, List.set_cons_zero, List.set_cons_succ]
      refine' wpAnyH_take (i := 37) (oi := ⟨_, _, _, _, _, _⟩) (v := _) rfl (by kernel_rfl) (by kernel_rfl) (by kernel_rfl) (fun _ _ _ h => h) (Or.inl ⟨by rfl, ?hy37⟩) hS ?rest37
      case hy37 => (intro wz hSw; (try dsimp only at hSw); go_simp; try with_reducible rfl)
      try simp only [Act.put, List.setIfInBounds_toArray, List.set_cons_zero, List.set_cons_succ]
      refine wpAnyH_ready (rs := [36]) (by kernel_rfl) (by simp) (AllReadyH.cons rfl (fun K hK => ?_) AllReadyH.nil)
      go_simp
      refine (dtext_any _ l _ (by omega) (ints_below hr2.out (below_trans0 hbelW.out hW13.out))).mono ?_
      rintro e w14 ⟨rfl, hb14⟩
      have hW14 := Lib.hid (below_trans0 hW13.out hb14)
      clear hb14
      go_wp2_with fail
      refine hK.out _ _ (four_below H4.out hW14.out) (fun hSn => ?_)
      clear hS
      have hS := hSn
      clear hSn
      clear hK K
      try simp only [Act.put, List.setIfInBounds_toArray, List.set_cons_zero, List.set_cons_succ]
      refine wpAnyH_ready (rs := [38]) (by kernel_rfl) (by simp) (AllReadyH.cons rfl (fun K hK => ?_) AllReadyH.nil)
      go_simp
      refine (rtext_any _ l _ (by omega) (ints_below hr2.out (below_trans0 hbelW.out hW14.out))).mono ?_
      rintro e w15 ⟨rfl, hb15⟩
      have hW15 := Lib.hid (below_trans0 hW14.out hb15)
      clear hb15
      go_wp2_with fail
      refine hK.out _ _ (four_below H4.out hW15.out) (fun hSn => ?_)
      clear hS
      have hS := hSn
      clear hSn
      clear hK K
      try simp only [Act.put, List.setIfInBounds_toArray, List.set_cons_zero, List.set_cons_succ]
      refine' wpAnyH_take (i := 39) (oi := ⟨_, _, _, _, _, _⟩) (v := _) rfl (by kernel_rfl) (by kernel_rfl) (by kernel_rfl) (fun _ _ _ h => h) (Or.inl ⟨by rfl, ?hy39⟩) hS ?rest39
      case hy39 => (intro wz hSw; (try dsimp only at hSw); go_simp; try with_reducible rfl)
      try simp only [Act.put, List.setIfInBounds_toArray, List.set_cons_zero, List.set_cons_succ]
      refine' wpAnyH_take (i := 40) (oi := ⟨_, _, _, _, _, _⟩) (v := _) rfl (by kernel_rfl) (by kernel_rfl) (by kernel_rfl) (fun _ _ _ h => h) (Or.inl ⟨by rfl, ?hy40⟩) hS ?rest40
      case hy40 => (intro wz hSw; (try dsimp only at hSw); go_simp; try with_reducible rfl)
      try simp only [Act.put, List.setIfInBounds_toArray, List.set_cons_zero, List.set_cons_succ]
      refine' wpAnyH_take (i := 41) (oi := ⟨_, _, _, _, _, _⟩) (v := _) rfl (by kernel_rfl) (by kernel_rfl) (by kernel_rfl) (fun _ _ _ h => h) (Or.inl ⟨by rfl, ?hy41⟩) hS ?rest41
      case hy41 => (intro wz hSw; (try dsimp only at hSw); go_simp; try with_reducible rfl)
      try simp only [Act.put, List.setIfInBounds_toArray, List.set_cons_zero, List.set_cons_succ]
      refine wpAnyH_done (by kernel_rfl) ?_ _
      all_goals go_wp2_with fail
      go_ret
      exact ⟨rfl, below_trans0 hbelW.out hW15.out⟩
end Go.Proofs.YtcchcgllgodkhaaDoor
