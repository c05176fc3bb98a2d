/- Layer 7: the walk of CanonComposes. -/
import Derived.Test.YtkhjkodeolaemaaDoorCnW0
import Derived.Test.YtkhjkodeolaemaaDoorCnN
import Derived.Test.YtkhjkodeolaemaaDoorDeP
import Derived.Deep.LoopGhost
import Derived.Deep.DeepCutAuto
namespace Go.Proofs.YtkhjkodeolaemaaDoor
set_option linter.unusedSimpArgs false
set_option linter.unusedVariables false
open Go.RowKit Go.Lib

theorem made_snoc (l : List Int) (r : Int) : (l ++ [r]).flatMap Dcp.fullI = l.flatMap Dcp.fullI ++ Dcp.fullI r := by rw [List.flatMap_append]; simp
theorem made_take (l : List Int) (k : Nat) : ((l.take k).flatMap Dcp.fullI).length ≤ 4 * l.length := by
  have := Can.made_len (l.take k)
  rw [List.length_take] at this
  omega

set_option maxRecDepth 100000 in
set_option maxHeartbeats 3200000 in
theorem canonComposes_walk (hO : OrderC) (hS : SortedC) (hM : MarksC) (hC : ComposeC) (hF : FullC) (hI : IsC) (v : Value) (l : List Int) (w : World) (hv : RI w v l ∧ WfI l) :
    Calls Tryd.prog 5 #[v] w fun e w' => e = .returned (.bool true) ∧ Below w.heap.size w w' := by
  obtain ⟨hri, hwf⟩ := hv
  obtain ⟨p, cap, rfl⟩ := ri_form hri
  obtain ⟨i0, hi, hz0, hz1, hz2⟩ := info_parts info_i
  have hawake := Lib.hid (awake7 hO hS hM hC)
  replace hri := Lib.hid hri
  by_cases hl : l.length ≤ 60
  · have hl' : decide (60 < l.length) = false := decide_eq_false (by omega)
    go_enter Tryd.func5, Tryd.ntmps5
    go_wp2_with fail
    refine (hawake.out w).mono ?_
    rintro e w1 ⟨rfl, hb1⟩
    replace hb1 := Lib.hid hb1
    go_wp2_with fail
    go_loopg [4] l.length (fun g vi wr => ∃ k : Nat, k ≤ l.length ∧ vi = .int .i64 k ∧ g = l.length - k ∧ (∀ j (h : j < l.length), j < k → Dcp.fullI l[j] = [l[j]]) ∧ Below w.heap.size w wr)
    case atStart => exact ⟨0, Nat.zero_le _, rfl, rfl, fun j _ h => by omega, hb1.out⟩
    case round =>
      obtain ⟨k, hk, rfl, rfl, hone, hbel⟩ := hrel
      by_cases hlt : k < l.length
      · obtain ⟨b, off, rfl, hb, hcell⟩ := ri_at (ri_below hri.out hbel) (by omega)
        have hc := hcell k hlt
        have his := hI l[k] wr (hwf _ (List.getElem_mem hlt))
        have hnext : Dcp.fullI l[k] = [l[k]] → ∀ j (h : j < l.length), j < k + 1 → Dcp.fullI l[j] = [l[j]] := by
          intro h0 j hj hjk
          by_cases e : j < k
          · exact hone j hj e
          · obtain rfl : j = k := by omega
            exact h0
        obtain ⟨x, hx⟩ : ∃ x, l[k] = x := ⟨_, rfl⟩
        rw [hx] at hc his hnext
        by_cases hone1 : Dcp.fullI x = [x]
        · rw [decide_eq_true hone1] at his
          have hnx := Lib.hid (hnext hone1)
          replace his := Lib.hid his
          replace hbel := Lib.hid hbel
          clear hcell hx hone hone1 hnext
          go_wp2_with fail
          refine his.out.mono ?_
          rintro e w2 ⟨rfl, hb2⟩
          replace hb2 := Lib.hid (below_on hbel.out hb2)
          go_wp2_with fail
          go_roundg (l.length - (k + 1))
          case measure => omega
          case rel => exact ⟨k + 1, by omega, by go_num, rfl, hnx.out, hb2.out⟩
        · rw [decide_eq_false hone1] at his
          replace his := Lib.hid his
          replace hbel := Lib.hid hbel
          clear hcell hx hone hone1 hnext
          go_wp2_with fail
          refine his.out.mono ?_
          rintro e w2 ⟨rfl, hb2⟩
          replace hb2 := Lib.hid (below_on hbel.out hb2)
          go_wp2_with fail
          go_ret
          exact ⟨rfl, hb2.out⟩
      · have hall : ∀ x ∈ l, Dcp.fullI x = [x] := by
          intro x hx
          obtain ⟨j, hj, rfl⟩ := List.mem_iff_getElem.1 hx
          exact hone j hj (by omega)
        have hlt' : decide (k < l.length) = false := decide_eq_false hlt
        obtain ⟨q1, q2, q3⟩ := Can.composes (Can.order_sorted l) (fun x hx => hall x (Can.order_mem hx))
        have hwo := wf_order hwf
        have hwc := Can.wf_compose hwo
        have hwm := Can.wf_made hwc
        have n1 := Can.orderI_len l
        have n2 := Can.compose_le (Can.orderI l)
        have n3 := made_take (Can.composeI (Can.orderI l))
        have n4 := Can.made_len (Can.composeI (Can.orderI l))
        have ho := fun W h => order_of hO (v := .slice p l.length cap) (w := W) rfl (by omega) h hwf
        have hc1 := fun V W h => compose_of hC (v := V) (w := W) (l := Can.orderI l) rfl (by omega) h hwo
        have ho2 := fun V W h => order_of hO (v := V) (w := W) q1 (by omega) h hwm
        have hc2 := fun V W h => compose_of hC (v := V) (w := W) q2 (by omega) h hwc
        have hs2 := fun V W h => sorted_of hS (v := V) (w := W) q3 (by omega) h hwc
        have hful := fun (x : Int) (hx : x ∈ Can.composeI (Can.orderI l)) W => hF x W (hwc x hx)
        obtain ⟨O, hOO⟩ : ∃ O, Can.orderI l = O := ⟨_, rfl⟩
        simp only [hOO] at hwo hwc hwm n1 n2 n3 n4 ho hc1 ho2 hc2 hs2 hful
        obtain ⟨C, hCC⟩ : ∃ C, Can.composeI O = C := ⟨_, rfl⟩
        simp only [hCC] at hwc hwm n2 n3 n4 hc1 ho2 hc2 hs2 hful
        have hn2 : C.length ≤ O.length := n2
        have hO60 : O.length ≤ 60 := by omega
        have hle : decide (C.length ≤ O.length) = true := decide_eq_true n2
        replace hbel := Lib.hid hbel
        replace ho := Lib.hid ho
        replace hc1 := Lib.hid hc1
        replace ho2 := Lib.hid ho2
        replace hc2 := Lib.hid hc2
        replace hs2 := Lib.hid hs2
        replace hful := Lib.hid hful
        replace n3 := Lib.hid n3
        clear q1 q2 q3 hone hall hlt hwf hO hS hM hC hF hI hwo hwc hwm hOO hCC n1 n2 n4 hk
        go_wp2_with fail
        refine (ho.out _ (ri_below hri.out hbel.out)).mono ?_
        rintro e w2 ⟨vo, rfl, ro, hb2⟩
        obtain ⟨po, co, rfl⟩ := ri_form ro
        replace ro := Lib.hid ro
        replace hb2 := Lib.hid (below_on hbel.out hb2)
        go_wp2_with fail
        refine (hc1.out _ _ ro.out).mono ?_
        rintro e w3 ⟨vc, rfl, rc, hb3⟩
        obtain ⟨pc, cc, rfl⟩ := ri_form rc
        replace rc := Lib.hid rc
        replace ro := Lib.hid (ri_below ro.out hb3)
        replace hb3 := Lib.hid (below_on hb2.out hb3)
        go_wp2_with fail
        go_loopg [7, 8] C.length (fun g vm vi wr => ∃ k : Nat, k ≤ C.length ∧ vi = .int .i64 k ∧ g = C.length - k ∧ OwnI w3.heap.size vm ((C.take k).flatMap Dcp.fullI) wr ∧ Below w3.heap.size w3 wr)
        case atStart => exact ⟨0, Nat.zero_le _, rfl, rfl, ownI_nil _ _, Below.refl _ _⟩
        case round =>
          obtain ⟨k, hk, rfl, rfl, hown, hbel⟩ := hrel
          by_cases hlt : k < C.length
          · obtain ⟨b, off, rfl, hb, hcell⟩ := ri_at (ri_below rc.out hbel) (by omega)
            have hc := hcell k hlt
            have hf := hful.out C[k] (List.getElem_mem hlt)
            have hsn : C.take (k + 1) = C.take k ++ [C[k]] := by rw [List.take_succ_eq_append_getElem hlt]
            have hms := made_snoc (C.take k) C[k]
            rw [← hsn] at hms
            have hfl := (Dcp.full_len C[k]).2
            have hmt := n3.out k
            obtain ⟨x, hx⟩ : ∃ x, C[k] = x := ⟨_, rfl⟩
            rw [hx] at hc hf hms hfl
            obtain ⟨M, hMM⟩ : ∃ M, (C.take k).flatMap Dcp.fullI = M := ⟨_, rfl⟩
            obtain ⟨F, hFF⟩ : ∃ F, Dcp.fullI x = F := ⟨_, rfl⟩
            rw [hMM] at hown hms hmt
            rw [hFF] at hf hms hfl
            have hMl : M.length ≤ 240 := by omega
            replace hms := Lib.hid hms
            replace hf := Lib.hid hf
            replace hown := Lib.hid hown
            replace hbel := Lib.hid hbel
            clear hcell hsn hx hMM hFF hmt
            go_wp2_with fail
            refine (hf.out _).mono ?_
            rintro e w4 ⟨vf, rfl, rf, hb4⟩
            have o4 := Lib.hid (ownI_below hown.out hb4)
            have b4 := Lib.hid (below_on hbel.out hb4)
            have s4 := Lib.hid (ri_src rf)
            clear rf hb4 hown hbel
            go_wp2_with (at_builtin; refine wpList_append_src rfl _ _ 22 rfl w3.heap.size 3 i0 (.int .i64 0) 8 Tryd.underlying22 hi hz0 hz1 hz2 rfl _ _ _ rfl o4.out _ _ rfl s4.out (oneCellI _) (by unfold maxLen; first | (simp; done) | (simp; omega)) (by first | (simp; done) | (simp; omega)) b4.out.size ?_; intro v5 w5 ho5 hg5; have o5 := Lib.hid (ownI_of_row (l := M ++ F) ho5 (by (try simp); try omega) (by (try simp); try omega)); have b5 := Lib.hid (below_row b4.out hg5 b4.out.size o4.out (Nat.le_refl _)); clear ho5 hg5)
            go_roundg (C.length - (k + 1))
            case measure => omega
            case rel => exact ⟨k + 1, by omega, by go_num, rfl, by rw [hms.out]; exact o5.out, b5.out⟩
          · obtain rfl : k = C.length := by omega
            have hlt' : decide (C.length < C.length) = false := by simp
            rw [List.take_length] at hown
            have hm := ri_of_own hown
            have hro := Lib.hid (ri_below ro.out hbel)
            have hrc := Lib.hid (ri_below rc.out hbel)
            have hb5 := Lib.hid (below_on hb3.out hbel)
            obtain ⟨M, hMM⟩ : ∃ M, C.flatMap Dcp.fullI = M := ⟨_, rfl⟩
            simp only [hMM] at hm ho2
            obtain ⟨pm, cm, rfl⟩ := ri_form hm
            replace hm := Lib.hid hm
            clear hown hbel hMM hful n3
            go_wp2_with fail
            refine (ho2.out _ _ hm.out).mono ?_
            rintro e w6 ⟨v6, rfl, r6, hb6⟩
            replace r6 := Lib.hid r6
            replace hro := Lib.hid (ri_below hro.out hb6)
            replace hrc := Lib.hid (ri_below hrc.out hb6)
            replace hb6 := Lib.hid (below_on hb5.out hb6)
            go_wp2_with fail
            refine (same_self _ _ O _ (by omega) r6.out hro.out).mono ?_
            rintro e w7 ⟨rfl, hb7⟩
            replace hrc := Lib.hid (ri_below hrc.out hb7)
            replace hb7 := Lib.hid (below_on hb6.out hb7)
            go_wp2_with fail
            refine (hc2.out _ _ hrc.out).mono ?_
            rintro e w8 ⟨v8, rfl, r8, hb8⟩
            replace r8 := Lib.hid r8
            replace hrc := Lib.hid (ri_below hrc.out hb8)
            replace hb8 := Lib.hid (below_on hb7.out hb8)
            go_wp2_with fail
            refine (same_self _ _ C _ (by omega) r8.out hrc.out).mono ?_
            rintro e w9 ⟨rfl, hb9⟩
            replace hrc := Lib.hid (ri_below hrc.out hb9)
            replace hb9 := Lib.hid (below_on hb8.out hb9)
            go_wp2_with fail
            refine (hs2.out _ _ hrc.out).mono ?_
            rintro e w10 ⟨rfl, hb10⟩
            replace hb10 := Lib.hid (below_on hb9.out hb10)
            go_wp2_with fail
            go_ret
            exact ⟨rfl, hb10.out⟩
  · have hl' : decide ((60 : Int) < (l.length : Int)) = true := decide_eq_true (by omega)
    clear hwf hO hS hM hC hF hI
    go_enter Tryd.func5, Tryd.ntmps5
    go_wp2_with fail
    refine (hawake.out w).mono ?_
    rintro e w1 ⟨rfl, hb1⟩
    replace hb1 := Lib.hid hb1
    go_wp2_with fail
    go_ret
    exact ⟨rfl, hb1.out⟩

end Go.Proofs.YtkhjkodeolaemaaDoor
