/- Layer 12: the walk of SegJoins. -/
import Derived.Test.YtbkgjbpnogcjeaaSgW0
import Derived.Test.YtbkgjbpnogcjeaaBasP
import Derived.Deep.LoopGhost
import Derived.Deep.DeepCutAuto
namespace Go.Proofs.Ytbkgjbpnogcjeaa
set_option linter.unusedSimpArgs false
set_option linter.unusedVariables false
open Go.RowKit Go.Lib

theorem flat_len {L : List (List Int)} (h : ∀ x ∈ L, 1 ≤ x.length) : L.length ≤ L.flatten.length := by
  induction L with
  | nil => simp
  | cons x t ih =>
    have h1 := h x (List.mem_cons_self ..)
    have h2 := ih fun y hy => h y (List.mem_cons_of_mem _ hy)
    simp only [List.length_cons, List.flatten_cons, List.length_append]
    omega
theorem flat_take (L : List (List Int)) (j : Nat) (h : j < L.length) : (L.take (j + 1)).flatten = (L.take j).flatten ++ L[j] := by
  rw [List.take_succ_eq_append_getElem h, List.flatten_append, List.flatten_cons, List.flatten_nil, List.append_nil]
theorem flat_le (L : List (List Int)) (j : Nat) : (L.take j).flatten.length ≤ L.flatten.length := by
  have h : L.flatten = (L.take j).flatten ++ (L.drop j).flatten := by rw [← List.flatten_append, List.take_append_drop]
  rw [h, List.length_append]
  omega

set_option maxHeartbeats 6400000 in
set_option maxRecDepth 100000 in
theorem segJoins_walk (hS : SaneC12) (hA : AllC12) (v : Value) (l : List Int) (w : World) (hv : RI w v l ∧ WfI l) :
    Calls Try.prog 4 #[v] w fun e w' => e = .returned (.bool true) ∧ Below w.heap.size w w' := by
  obtain ⟨hri, _⟩ := hv
  obtain ⟨i0, hi, hz0, hz1, hz2⟩ := info_parts info_i
  obtain ⟨p, cap, rfl⟩ := ri_form hri
  have hawake := Lib.hid (awake12 hS hA)
  replace hri := Lib.hid hri
  by_cases hl : l.length ≤ 200
  · have hl' : decide (200 < l.length) = false := decide_eq_false (by omega)
    have hl2 : ¬ (200 : Int) < (l.length : Int) := by omega
    obtain ⟨hj, hsz⟩ := Sgm.all_join l
    have hall := fun W h => all_of12 hA (v := .slice p l.length cap) (l := l) (w := W) rfl (by omega) h
    obtain ⟨L, hL⟩ : ∃ L, Sgm.allI l = L := ⟨_, rfl⟩
    rw [hL] at hj hsz hall
    have hLl : L.length ≤ 200 := by
      have := flat_len (L := L) fun x hx => (hsz x hx).1
      rw [hj] at this
      omega
    have hfl := fun j => flat_le L j
    rw [hj] at hfl
    have hnx := flat_take L
    replace hall := Lib.hid hall
    replace hj := Lib.hid hj
    replace hsz := Lib.hid hsz
    replace hfl := Lib.hid hfl
    replace hnx := Lib.hid hnx
    clear hL hS hA
    go_enter Try.func4, Try.ntmps4
    go_wp2_with fail
    refine (hawake.out w).mono ?_
    rintro e w0 ⟨rfl, b0⟩
    replace b0 := Lib.hid b0
    go_wp2_with fail
    refine (hall.out _ (ri_below hri.out b0.out)).mono ?_
    rintro e w1 ⟨vc, rfl, tc, q1⟩
    obtain ⟨pc, cc, rfl⟩ := rr_form tc
    have b1 := Lib.hid (below_on b0.out q1)
    replace tc := Lib.hid tc
    clear q1 b0
    go_wp2_with fail
    go_loopg [5, 6] L.length (fun g vt vi wr => ∃ j : Nat, j ≤ L.length ∧ vi = .int .i64 j ∧ g = L.length - j ∧ OwnI w1.heap.size vt (L.take j).flatten wr ∧ Below w1.heap.size w1 wr)
    case atStart => exact ⟨0, Nat.zero_le _, rfl, rfl, ownI_nil _ _, Below.refl _ _⟩
    case round =>
      obtain ⟨j, hjL, rfl, rfl, hown, hbel⟩ := hrel
      by_cases hlt : j < L.length
      · have hlt' : (j : Int) < (L.length : Int) := by omega
        obtain ⟨b, off, rfl, hb, hcell⟩ := rr_at tc.out (by omega)
        obtain ⟨u, c0, r0⟩ := hcell j hlt
        have hs := hsz.out L[j] (List.getElem_mem hlt)
        have hstep := hnx.out j hlt
        have hf := hfl.out j
        obtain ⟨x, hx⟩ : ∃ x, L[j] = x := ⟨_, rfl⟩
        obtain ⟨m, hm⟩ : ∃ m, (L.take j).flatten = m := ⟨_, rfl⟩
        rw [hx] at r0 hs hstep
        rw [hm] at hown hstep hf
        obtain ⟨px, cx, rfl⟩ := ri_form r0
        have c1 : wr.cell? ⟨b, off + j, none⟩ = some (.slice px x.length cx) := (hbel.cell (p := ⟨b, off + j, none⟩) hb).trans c0
        have s1 := Lib.hid (ri_src (ri_below r0 hbel))
        have n1 : ¬ x.length < 1 := by omega
        have n2 : ¬ 32 < x.length := by omega
        have n3 : ¬ (x.length : Int) < 1 := by omega
        have n4 : ¬ (32 : Int) < (x.length : Int) := by omega
        have n5 : x.length ≤ 32 := hs.2
        have n6 : m.length ≤ 200 := by omega
        have n7 : ¬ x.length = 0 := by omega
        replace hstep := Lib.hid hstep
        replace hown := Lib.hid hown
        replace hbel := Lib.hid hbel
        clear hcell c0 hs hx hm hf r0
        go_wp2_with (at_builtin; refine wpList_append_src rfl _ _ 22 rfl w1.heap.size 3 i0 (.int .i64 0) 8 Try.underlying22 hi hz0 hz1 hz2 rfl _ _ _ rfl hown.out _ _ rfl s1.out (oneCellI _) (by unfold maxLen; first | (simp; done) | (simp; omega)) (by first | (simp; done) | (simp; omega)) hbel.out.size ?_; intro v5 w5 ho5 hg5; have o5 := Lib.hid (ownI_of_row (l := m ++ x) ho5 (by (try simp); try omega) (by (try simp); try omega)); have b5 := Lib.hid (below_row hbel.out hg5 hbel.out.size hown.out (Nat.le_refl _)); clear ho5 hg5)
        go_roundg (L.length - (j + 1))
        case measure => omega
        case rel => exact ⟨j + 1, by omega, by go_num, rfl, by rw [hstep.out]; exact o5.out, b5.out⟩
      · obtain rfl : j = L.length := by omega
        have hlt' : decide ((L.length : Int) < (L.length : Int)) = false := by simp
        rw [List.take_length, hj.out] at hown
        have ro := Lib.hid (ri_of_own hown)
        have bE := Lib.hid (below_on b1.out hbel)
        have rl := Lib.hid (ri_below hri.out bE.out)
        clear hown hbel
        go_wp2_with fail
        refine (same_self _ _ l _ (by omega) ro.out rl.out).mono ?_
        rintro e w3 ⟨rfl, q3⟩
        replace bE := Lib.hid (below_on bE.out q3)
        clear q3
        go_wp2_with fail
        go_ret
        exact ⟨rfl, bE.out⟩
  · have hl' : decide (200 < l.length) = true := decide_eq_true (by omega)
    have hl2 : (200 : Int) < (l.length : Int) := by omega
    clear hS hA
    go_enter Try.func4, Try.ntmps4
    go_wp2_with fail
    refine (hawake.out _).mono ?_
    rintro e w1 ⟨rfl, q1⟩
    have b1 := Lib.hid q1
    clear q1
    go_wp2_with fail
    go_ret
    exact ⟨rfl, b1.out⟩

end Go.Proofs.Ytbkgjbpnogcjeaa
