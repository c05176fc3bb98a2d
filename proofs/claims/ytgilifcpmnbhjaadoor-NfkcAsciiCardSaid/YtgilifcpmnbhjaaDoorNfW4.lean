/- Layer 8: the walk of NfkcAscii. -/
import Derived.Test.YtgilifcpmnbhjaaDoorNfW0
import Derived.Test.YtgilifcpmnbhjaaDoorBasP
import Derived.Deep.LoopGhost
import Derived.Deep.DeepCutAuto
namespace Go.Proofs.YtgilifcpmnbhjaaDoor
set_option linter.unusedSimpArgs false
set_option linter.unusedVariables false
open Go.RowKit Go.Lib

theorem low_snoc (l : List Int) (k : Nat) (hk : k < l.length) : (l.take (k + 1)).map (fun x => x % 128) = (l.take k).map (fun x => x % 128) ++ [l[k] % 128] := by
  rw [List.take_succ_eq_append_getElem hk, List.map_append]
  rfl

set_option maxHeartbeats 3200000 in
set_option maxRecDepth 100000 in
theorem nfkcAscii_walk (hM : MadeC) (hK : NfkcC) (hF : FormC) (v : Value) (l : List Int) (c : Int) (w : World) (hv : RI w v l ∧ WfI l) (_ : -9223372036854775808 ≤ c ∧ c ≤ 9223372036854775807) :
    Calls Tryd.prog 8 #[v, .int .i64 c] w fun e w' => e = .returned (.bool true) ∧ Below w.heap.size w w' := by
  obtain ⟨hri, hwf⟩ := hv
  obtain ⟨p, cap, rfl⟩ := ri_form hri
  obtain ⟨i0, hi, hz0, hz1, hz2⟩ := info_parts info_i
  have hawake := Lib.hid (awake8 hM hK hF)
  replace hri := Lib.hid hri
  by_cases hl : l.length ≤ 60
  · have hl' : decide (60 < l.length) = false := decide_eq_false (by omega)
    obtain ⟨x, hx, hx0, hx1⟩ : ∃ x, wrap64 (65 + (bits .and .i64 c 65535).tmod 26) = x ∧ 65 ≤ x ∧ x ≤ 90 := by
      refine ⟨_, rfl, ?_⟩
      rw [and65535, Int.tmod_eq_emod_of_nonneg (by omega)]
      unfold wrap64
      omega
    have n4 := nfkc_len l
    have hwk := wf_nfkc hwf
    have hk := Lib.hid (fun W => nfkc_of hK (v := .slice p l.length cap) (w := W) rfl (by omega) hwf)
    have hfa := Lib.hid (fun V W => form_yes hF (v := V) (w := W) (l := l.map (fun x => x % 128)) (Nfk.ascii_form _ (fun y hy => by obtain ⟨z, _, rfl⟩ := List.mem_map.1 hy; omega)) (by rw [List.length_map]; omega) (fun y hy => by obtain ⟨z, _, rfl⟩ := List.mem_map.1 hy; omega))
    have hfx := Lib.hid (fun V W => form_yes hF (v := V) (w := W) (Nfk.form_letter l (show 0 ≤ x by omega) (by omega)) (by rw [List.length_append]; simp; omega) (wfI_app hwk (wfI_cons (by omega) wfI_nil)))
    obtain ⟨C, hC⟩ : ∃ A, Nfk.nfkcI l = A := ⟨_, rfl⟩
    rw [hC] at hk hfx n4
    have hCl : C.length ≤ 480 := by omega
    obtain ⟨Cx, hCx⟩ : ∃ A, C ++ [x] = A := ⟨_, rfl⟩
    rw [hCx] at hfx
    replace hCx := Lib.hid hCx
    clear hC hwf hwk hM hK hF n4 hx0 hx1
    go_enter Tryd.func8, Tryd.ntmps8
    go_wp2_with fail
    refine (hawake.out w).mono ?_
    rintro e w1 ⟨rfl, hb1⟩
    replace hb1 := Lib.hid hb1
    go_wp2_with fail
    go_loopg [6, 7] l.length (fun g va vi wr => ∃ k : Nat, k ≤ l.length ∧ vi = .int .i64 k ∧ g = l.length - k ∧ OwnI w.heap.size va ((l.take k).map (fun x => x % 128)) wr ∧ Below w.heap.size w wr)
    case atStart => exact ⟨0, Nat.zero_le _, rfl, rfl, ownI_nil _ _, hb1.out⟩
    case round =>
      obtain ⟨k, hk0, rfl, rfl, hown, hbel⟩ := hrel
      by_cases hlt : k < l.length
      · obtain ⟨b, off, rfl, hb, hcell⟩ := ri_at (ri_below hri.out hbel) (by omega)
        have hc := hcell k hlt
        have hsn := low_snoc l k hlt
        obtain ⟨z, hz⟩ : ∃ z, l[k] = z := ⟨_, rfl⟩
        rw [hz] at hc hsn
        obtain ⟨y, hy⟩ : ∃ y, z % 128 = y := ⟨_, rfl⟩
        have hand : bits .and .i64 z 127 = y := by rw [and127, hy]
        rw [hy] at hsn
        obtain ⟨A, hA⟩ : ∃ A, (l.take k).map (fun x => x % 128) = A := ⟨_, rfl⟩
        have hAl : A.length ≤ 60 := by rw [← hA, List.length_map, List.length_take]; omega
        rw [hA] at hown hsn
        have o1 := Lib.hid (ownI_alloc hown (.cells #[.int .i64 y] 3))
        have b1 := Lib.hid (hbel.alloc hbel.size (.cells #[.int .i64 y] 3))
        have s1 := Lib.hid (ri_src (ri_of_own (ownI_lit w.heap.size wr [y] #[.int .i64 y] wr.heap.size 1 rfl hbel.size rfl rfl (by unfold maxLen; omega))))
        replace hsn := Lib.hid hsn
        clear hcell hz hy hA hown hbel
        go_wp2_with (at_builtin; refine wpList_append_src rfl _ _ 22 rfl w.heap.size 3 i0 (.int .i64 0) 8 Tryd.underlying22 hi hz0 hz1 hz2 rfl _ _ _ rfl o1.out _ _ rfl s1.out (oneCellI _) (by unfold maxLen; first | (simp; done) | (simp; omega)) (by first | (simp; done) | (simp; omega)) b1.out.size ?_; intro v5 w5 ho5 hg5; have o5 := Lib.hid (ownI_of_row (l := A ++ [y]) ho5 (by (try simp); try omega) (by (try simp); try omega)); have b5 := Lib.hid (below_row b1.out hg5 b1.out.size o1.out (Nat.le_refl _)); clear ho5 hg5)
        go_roundg (l.length - (k + 1))
        case measure => omega
        case rel => exact ⟨k + 1, by omega, by go_num, rfl, by rw [hsn.out]; exact o5.out, b5.out⟩
      · obtain rfl : k = l.length := by omega
        have hlt' : decide (l.length < l.length) = false := by simp
        rw [List.take_length] at hown
        have ra := ri_of_own hown
        obtain ⟨A, hA⟩ : ∃ A, l.map (fun x => x % 128) = A := ⟨_, rfl⟩
        rw [hA] at ra hfa
        obtain ⟨pa, ca, rfl⟩ := ri_form ra
        replace ra := Lib.hid ra
        replace hbel := Lib.hid hbel
        clear hA hown
        go_wp2_with fail
        refine (hk.out _ (ri_below hri.out (below_on hbel.out (below_new wr (.cells #[] 3))))).mono ?_
        rintro e w2 ⟨vk, rfl, rk, q2⟩
        have e2 := Lib.hid (ownI_below (ownI_lit wr.heap.size wr [] #[] wr.heap.size 0 rfl (Nat.le_refl _) rfl rfl (by unfold maxLen; omega)) q2)
        have g2 := Lib.hid (below_on (below_new wr (.cells #[] 3)) q2)
        have s2 := Lib.hid (ri_src rk)
        clear rk q2
        go_upto_region 10 with (at_builtin; refine wpList_append_src rfl _ _ 22 rfl wr.heap.size 3 i0 (.int .i64 0) 8 Tryd.underlying22 hi hz0 hz1 hz2 rfl _ _ _ rfl e2.out _ _ rfl s2.out (oneCellI _) (by unfold maxLen; first | (simp; done) | (simp; omega)) (by first | (simp; done) | (simp; omega)) g2.out.size ?_; intro v3 w3 ho3 hg3; have o3 := Lib.hid (ownI_of_row (l := C) ho3 (by (try simp); try omega) (by (try simp); try omega)); have b3 := Lib.hid (below_row g2.out hg3 g2.out.size e2.out (Nat.le_refl _)); clear ho3 hg3)
        have o4 := Lib.hid (ownI_alloc o3.out (.cells #[.int .i64 x] 3))
        have b4 := Lib.hid (b3.out.alloc b3.out.size (.cells #[.int .i64 x] 3))
        have s4 := Lib.hid (ri_src (ri_of_own (ownI_lit wr.heap.size w3 [x] #[.int .i64 x] w3.heap.size 1 rfl b3.out.size rfl rfl (by unfold maxLen; omega))))
        clear e2 g2 s2
        go_upto_region 11 with (at_builtin; refine wpList_append_src rfl _ _ 22 rfl wr.heap.size 3 i0 (.int .i64 0) 8 Tryd.underlying22 hi hz0 hz1 hz2 rfl _ _ _ rfl o4.out _ _ rfl s4.out (oneCellI _) (by unfold maxLen; first | (simp; done) | (simp; omega)) (by first | (simp; done) | (simp; omega)) b4.out.size ?_; intro v5 w5 ho5 hg5; have o5 := Lib.hid (ownI_of_row (l := C ++ [x]) ho5 (by (try simp); try omega) (by (try simp); try omega)); have b5 := Lib.hid (below_row b4.out hg5 b4.out.size o4.out (Nat.le_refl _)); clear ho5 hg5)
        have r5 := Lib.hid (ri_cast (ri_of_own o5.out) hCx.out)
        obtain ⟨p5, c5, rfl⟩ := ri_form r5.out
        have b6 := Lib.hid (below_on hbel.out b5.out)
        have ra5 := Lib.hid (ri_below ra.out b5.out)
        clear o3 b3 o4 b4 s4 o5
        go_wp2_with fail
        refine (hfa.out _ _ ra5.out).mono ?_
        rintro e w6 ⟨rfl, q6⟩
        have r6 := Lib.hid (ri_below r5.out q6)
        have b7 := Lib.hid (below_on b6.out q6)
        clear q6
        go_wp2_with fail
        refine (hfx.out _ _ r6.out).mono ?_
        rintro e w7 ⟨rfl, q7⟩
        have b8 := Lib.hid (below_on b7.out q7)
        clear q7
        go_wp2_with fail
        go_ret
        exact ⟨rfl, b8.out⟩
  · have hl' : decide ((60 : Int) < (l.length : Int)) = true := decide_eq_true (by omega)
    clear hwf hM hK hF
    go_enter Tryd.func8, Tryd.ntmps8
    go_wp2_with fail
    refine (hawake.out w).mono ?_
    rintro e w1 ⟨rfl, hb1⟩
    replace hb1 := Lib.hid hb1
    go_wp2_with fail
    go_ret
    exact ⟨rfl, hb1.out⟩

end Go.Proofs.YtgilifcpmnbhjaaDoor
