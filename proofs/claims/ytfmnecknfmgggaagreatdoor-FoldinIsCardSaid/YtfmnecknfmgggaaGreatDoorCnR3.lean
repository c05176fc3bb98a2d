/- Layer 7: the document's Compose. -/
import Derived.Test.YtfmnecknfmgggaaGreatDoorCnR2
import Derived.Test.YtfmnecknfmgggaaGreatDoorCnP
import Derived.Test.YtfmnecknfmgggaaGreatDoorPaRP
import Derived.Laws.OwnMore
namespace Go.Proofs.YtfmnecknfmgggaaGreatDoor
set_option linter.unusedSimpArgs false
set_option linter.unusedVariables false
open Go.RowKit Go.Lib


/-- what joined comes to -/
def JoinedRes (m : List Int) (r : Int) (w : World) (e : Ending) (w' : World) : Prop :=
  (((∃ v : Int, e = .returned (.tuple #[.int .i64 v, .int .i64 (-1)])) ∧ Can.cstep m.reverse r = r :: m.reverse) ∨
    ∃ (k : Nat) (v : Int), k < m.length ∧ e = .returned (.tuple #[.int .i64 v, .int .i64 k]) ∧ Can.cstep m.reverse r = (m.set k v).reverse) ∧ Below w.heap.size w w'

set_option maxHeartbeats 3200000 in
theorem rjoined_any (v : Value) (m : List Int) (r : Int) (w : World) (hl : m.length ≤ 1000000) (hv : RI w v m) : Calls Tryz.prog 68 #[v, .int .i64 r] w (JoinedRes m r w) := by
  obtain ⟨p, cap, rfl⟩ := ri_form hv
  replace hv := Lib.hid hv
  by_cases hm0 : m = []
  · subst hm0
    go_enter Tryz.func68, Tryz.ntmps68
    go_wp2_with fail
    go_loopg [6] 0 (fun g vk wr => vk = .int .i64 (-1) ∧ g = 0 ∧ wr = w)
    case atStart => exact ⟨rfl, rfl, rfl⟩
    case round =>
      obtain ⟨rfl, rfl, rfl⟩ := hrel
      go_wp2_with fail
      go_ret2
      exact ⟨.inl ⟨⟨_, rfl⟩, Can.cstep_marks [] r fun j hj => by simp at hj⟩, Below.refl _ _⟩
  · obtain ⟨L, hL⟩ : ∃ L, m.length = L + 1 := ⟨m.length - 1, by have := List.length_pos_iff.2 hm0; omega⟩
    have hLi : (m.length : Int) - 1 = (L : Int) := by omega
    have hLm : L < m.length := by omega
    obtain ⟨b, off, rfl, hb, hcell⟩ := ri_at hv.out (by omega)
    have hcs := hcell
    replace hcell := Lib.hid hcell
    obtain ⟨z, hz⟩ : ∃ z, m[L] = z := ⟨_, rfl⟩
    have hcz := hcell.out L hLm
    rw [hz] at hcz
    replace hL := Lib.hid hL
    replace hz := Lib.hid hz
    replace hcz := Lib.hid hcz
    clear hm0 hcs
    go_enter Tryz.func68, Tryz.ntmps68
    go_wp2_with fail
    go_loopg [6] (L + 1) (fun g vk wr => ((∃ k : Nat, k < m.length ∧ vk = .int .i64 k ∧ g = k + 1 ∧ Hid (∀ j (hj : j < m.length), k < j → Prp.mrkB m[j] = true)) ∨ (vk = .int .i64 (-1) ∧ g = 0 ∧ Hid (∀ j (hj : j < m.length), Prp.mrkB m[j] = true))) ∧ Below w.heap.size w wr)
    case atStart => exact ⟨.inl ⟨L, hLm, rfl, rfl, Lib.hid fun j hj h => absurd hj (by have := hL.out; omega)⟩, Below.refl _ _⟩
    case round =>
      obtain ⟨hh, hbel⟩ := hrel
      rcases hh with ⟨k, hk, rfl, rfl, hmk⟩ | ⟨rfl, rfl, hmk⟩
      · have hc : wr.cell? ⟨b, off + k, none⟩ = some (.int .i64 m[k]) := by rw [hbel.cell hb]; exact hcell.out k hk
        have hbr : b < wr.heap.size := Nat.lt_of_lt_of_le hb hbel.size
        obtain ⟨x, hx⟩ : ∃ x, m[k] = x := ⟨_, rfl⟩
        rw [hx] at hc
        have hmx := rmark_any x
        cases hmb : Prp.mrkB x with
        | true =>
          rw [hmb] at hmx
          replace hmx := Lib.hid hmx
          replace hbel := Lib.hid hbel
          have hall : Hid (∀ j (hj : j < m.length), k ≤ j → Prp.mrkB m[j] = true) := Lib.hid fun j hj h => by
            rcases Nat.eq_or_lt_of_le h with rfl | h
            · rw [hx, hmb]
            · exact hmk.out j hj h
          clear hmk hx hmb
          go_wp2_with fail
          refine (hmx.out _).mono ?_
          rintro e w2 ⟨rfl, hb2⟩
          replace hb2 := Lib.hid (below_on hbel.out hb2)
          go_wp2_with fail
          cases k with
          | zero =>
            go_roundg 0
            case measure => omega
            case rel => exact ⟨.inr ⟨rfl, rfl, Lib.hid fun j hj => hall.out j hj (Nat.zero_le _)⟩, hb2.out⟩
          | succ k =>
            go_roundg (k + 1)
            case measure => omega
            case rel => exact ⟨.inl ⟨k, by omega, by go_num, rfl, Lib.hid fun j hj h => hall.out j hj (by omega)⟩, hb2.out⟩
        | false =>
          rw [hmb] at hmx
          replace hmx := Lib.hid hmx
          have hmkk : Prp.mrkB m[k] = false := by rw [hx, hmb]
          have hhead := Can.cstep_head m L hL.out r k hk hmkk hmk.out
          rw [hx] at hhead
          have hjr := rjoin_any x r
          replace hbel := Lib.hid hbel
          by_cases hkL : k = L
          · -- the last one is the head
            have hnb := hhead (fun h => by
              have : Prp.mrkB m[k] = true := by simp only [hkL]; exact h.1
              rw [hmkk] at this; cases this)
            subst hkL
            have hLi2 : (m.length : Int) - 1 = (k : Int) := hLi
            cases hjo : Par.joinI x r with
            | none =>
              rw [hjo] at hnb hjr
              unfold optI at hjr
              dsimp only at hjr hnb
              replace hnb := Lib.hid hnb
              replace hjr := Lib.hid hjr
              clear hhead hmk hx hmb hmkk hjo
              go_wp2_with fail
              refine (hmx.out _).mono ?_
              rintro e w2 ⟨rfl, hb2⟩
              have hc2 : w2.cell? ⟨b, off + k, none⟩ = some (.int .i64 x) := (hb2.cell hbr).trans hc
              replace hb2 := Lib.hid (below_on hbel.out hb2)
              go_wp2_with fail
              refine (hjr.out _).mono ?_
              rintro e w3 ⟨rfl, rfl⟩
              go_wp2_with fail
              go_ret2
              exact ⟨.inl ⟨⟨_, rfl⟩, hnb.out⟩, hb2.out⟩
            | some y =>
              rw [hjo] at hnb hjr
              unfold optI at hjr
              dsimp only at hjr hnb
              replace hnb := Lib.hid hnb
              replace hjr := Lib.hid hjr
              clear hhead hmk hx hmb hmkk hjo
              go_wp2_with fail
              refine (hmx.out _).mono ?_
              rintro e w2 ⟨rfl, hb2⟩
              have hc2 : w2.cell? ⟨b, off + k, none⟩ = some (.int .i64 x) := (hb2.cell hbr).trans hc
              replace hb2 := Lib.hid (below_on hbel.out hb2)
              go_wp2_with fail
              refine (hjr.out _).mono ?_
              rintro e w3 ⟨rfl, rfl⟩
              go_wp2_with fail
              go_ret2
              exact ⟨.inr ⟨k, y, hk, rfl, hnb.out⟩, hb2.out⟩
          · have hmz : Prp.mrkB z = true := by rw [← hz.out]; exact hmk.out L hLm (by have := hL.out; omega)
            have hczr : wr.cell? ⟨b, off + L, none⟩ = some (.int .i64 z) := by rw [hbel.out.cell hb]; exact hcz.out
            have hcz1 := rccc_any z
            have hcr1 := rccc_any r
            have hblk := Can.cstep_block m L hL.out r
            rw [hz.out] at hhead hblk
            obtain ⟨cz, hcz0⟩ : ∃ c, Prp.cccI z = c := ⟨_, rfl⟩
            obtain ⟨cr, hcr0⟩ : ∃ c, Prp.cccI r = c := ⟨_, rfl⟩
            rw [hcz0] at hcz1 hhead hblk
            rw [hcr0] at hcr1 hhead hblk
            rw [hmz] at hhead hblk
            have hne : ¬ (k : Int) = (L : Int) := by omega
            have hne' : ((k : Int) == (L : Int)) = false := beq_eq_false_iff_ne.2 hne
            have hne2 : ((k : Int) != (L : Int)) = true := bne_iff_ne.2 hne
            replace hcz1 := Lib.hid hcz1
            replace hcr1 := Lib.hid hcr1
            clear hmk hx hmb hmkk hmz hcz0 hcr0
            by_cases hcc : cr ≤ cz
            · have hres := Lib.hid (hblk rfl hcc)
              clear hblk hhead hjr
              go_wp2_with fail
              refine (hmx.out _).mono ?_
              rintro e w2 ⟨rfl, hb2⟩
              have hc2 : w2.cell? ⟨b, off + L, none⟩ = some (.int .i64 z) := (hb2.cell hbr).trans hczr
              replace hb2 := Lib.hid (below_on hbel.out hb2)
              go_wp2_with fail
              refine (hcz1.out _).mono ?_
              rintro e w3 ⟨rfl, hb3⟩
              replace hb3 := Lib.hid (below_on hb2.out hb3)
              go_wp2_with fail
              refine (hcr1.out _).mono ?_
              rintro e w4 ⟨rfl, hb4⟩
              replace hb4 := Lib.hid (below_on hb3.out hb4)
              go_wp2_with fail
              go_ret2
              exact ⟨.inl ⟨⟨_, rfl⟩, hres.out⟩, hb4.out⟩
            · have hnb := hhead fun h => hcc h.2
              have hcc' : decide (cr ≤ cz) = false := decide_eq_false hcc
              clear hblk hhead hcc
              cases hjo : Par.joinI x r with
              | none =>
                rw [hjo] at hnb hjr
                unfold optI at hjr
                dsimp only at hjr hnb
                replace hnb := Lib.hid hnb
                replace hjr := Lib.hid hjr
                clear hjo
                go_wp2_with fail
                refine (hmx.out _).mono ?_
                rintro e w2 ⟨rfl, hb2⟩
                have hc2 : w2.cell? ⟨b, off + L, none⟩ = some (.int .i64 z) := (hb2.cell hbr).trans hczr
                have hd2 : w2.cell? ⟨b, off + k, none⟩ = some (.int .i64 x) := (hb2.cell hbr).trans hc
                have hbr2 := Nat.lt_of_lt_of_le hbr hb2.size
                replace hb2 := Lib.hid (below_on hbel.out hb2)
                go_wp2_with fail
                refine (hcz1.out _).mono ?_
                rintro e w3 ⟨rfl, hb3⟩
                have hd3 : w3.cell? ⟨b, off + k, none⟩ = some (.int .i64 x) := (hb3.cell hbr2).trans hd2
                have hbr3 := Nat.lt_of_lt_of_le hbr2 hb3.size
                replace hb3 := Lib.hid (below_on hb2.out hb3)
                go_wp2_with fail
                refine (hcr1.out _).mono ?_
                rintro e w4 ⟨rfl, hb4⟩
                have hd4 : w4.cell? ⟨b, off + k, none⟩ = some (.int .i64 x) := (hb4.cell hbr3).trans hd3
                replace hb4 := Lib.hid (below_on hb3.out hb4)
                go_wp2_with fail
                refine (hjr.out _).mono ?_
                rintro e w5 ⟨rfl, rfl⟩
                go_wp2_with fail
                go_ret2
                exact ⟨.inl ⟨⟨_, rfl⟩, hnb.out⟩, hb4.out⟩
              | some y =>
                rw [hjo] at hnb hjr
                unfold optI at hjr
                dsimp only at hjr hnb
                replace hnb := Lib.hid hnb
                replace hjr := Lib.hid hjr
                clear hjo
                go_wp2_with fail
                refine (hmx.out _).mono ?_
                rintro e w2 ⟨rfl, hb2⟩
                have hc2 : w2.cell? ⟨b, off + L, none⟩ = some (.int .i64 z) := (hb2.cell hbr).trans hczr
                have hd2 : w2.cell? ⟨b, off + k, none⟩ = some (.int .i64 x) := (hb2.cell hbr).trans hc
                have hbr2 := Nat.lt_of_lt_of_le hbr hb2.size
                replace hb2 := Lib.hid (below_on hbel.out hb2)
                go_wp2_with fail
                refine (hcz1.out _).mono ?_
                rintro e w3 ⟨rfl, hb3⟩
                have hd3 : w3.cell? ⟨b, off + k, none⟩ = some (.int .i64 x) := (hb3.cell hbr2).trans hd2
                have hbr3 := Nat.lt_of_lt_of_le hbr2 hb3.size
                replace hb3 := Lib.hid (below_on hb2.out hb3)
                go_wp2_with fail
                refine (hcr1.out _).mono ?_
                rintro e w4 ⟨rfl, hb4⟩
                have hd4 : w4.cell? ⟨b, off + k, none⟩ = some (.int .i64 x) := (hb4.cell hbr3).trans hd3
                replace hb4 := Lib.hid (below_on hb3.out hb4)
                go_wp2_with fail
                refine (hjr.out _).mono ?_
                rintro e w5 ⟨rfl, rfl⟩
                go_wp2_with fail
                go_ret2
                exact ⟨.inr ⟨k, y, hk, rfl, hnb.out⟩, hb4.out⟩
      · have hres := Lib.hid (Can.cstep_marks m r hmk.out)
        replace hbel := Lib.hid hbel
        clear hmk
        go_wp2_with fail
        go_ret2
        exact ⟨.inl ⟨⟨_, rfl⟩, hres.out⟩, hbel.out⟩

set_option maxHeartbeats 3200000 in
theorem rcompose_any (v : Value) (l : List Int) (w : World) (hl : l.length ≤ 1000000) (hv : RI w v l) : Calls Tryz.prog 46 #[v] w (Makes (Can.composeI l) w) := by
  obtain ⟨i0, hi, hz0, hz1, hz2⟩ := info_parts info_i
  obtain ⟨p, cap, rfl⟩ := ri_form hv
  replace hv := Lib.hid hv
  go_enter Tryz.func46, Tryz.ntmps46
  go_wp2_with fail
  go_loopg [3, 4] l.length (fun g vo vi wr => ∃ k : Nat, k ≤ l.length ∧ vi = .int .i64 k ∧ g = l.length - k ∧ OwnI w.heap.size vo (Can.composeI (l.take k)) wr ∧ Below w.heap.size w wr)
  case atStart => exact ⟨0, Nat.zero_le _, rfl, rfl, ownI_nil _ _, Below.refl _ _⟩
  case round =>
    obtain ⟨k, hk, rfl, rfl, hown, hbel⟩ := hrel
    by_cases hlt : k < l.length
    · have hlt' : (k : Int) < (l.length : Int) := by omega
      obtain ⟨b, off, rfl, hb, hcell⟩ := ri_at (ri_below hv.out hbel) (by omega)
      have hc := hcell k hlt
      obtain ⟨x, hx⟩ : ∃ x, l[k] = x := ⟨_, rfl⟩
      have hsn : l.take (k + 1) = l.take k ++ [x] := by rw [List.take_succ_eq_append_getElem hlt, hx]
      rw [hx] at hc
      have hstep := Can.compose_snoc (l.take k) x
      rw [← hsn] at hstep
      have hlen := Can.compose_le (l.take k)
      rw [List.length_take] at hlen
      obtain ⟨m, hm⟩ : ∃ m, Can.composeI (l.take k) = m := ⟨_, rfl⟩
      rw [hm] at hown hstep hlen
      have hml : m.length ≤ 1000000 := by omega
      have hj := rjoined_any _ m x wr hml (ri_of_own hown)
      replace hj := Lib.hid hj
      replace hstep := Lib.hid hstep
      replace hown := Lib.hid hown
      replace hbel := Lib.hid hbel
      clear hcell hsn hx hm hlen
      go_wp2_with fail
      refine hj.out.mono ?_
      rintro e w2 ⟨hjr, hb2⟩
      have hc2 : w2.cell? ⟨b, off + k, none⟩ = some (.int .i64 x) := (hb2.cell hb).trans hc
      have o2 := Lib.hid (ownI_below hown.out hb2)
      replace hb2 := Lib.hid (below_on hbel.out hb2)
      rcases hjr with ⟨⟨v0, rfl⟩, hcs⟩ | ⟨j, y, hjm, rfl, hcs⟩
      · have hst := hstep.out
        rw [hcs, List.reverse_cons, List.reverse_reverse] at hst
        replace hst := Lib.hid hst
        clear hstep hcs
        have o3 := Lib.hid (ownI_alloc o2.out (.cells #[.int .i64 x] 3))
        have b3 := Lib.hid (hb2.out.alloc hb2.out.size (.cells #[.int .i64 x] 3))
        have s3 := Lib.hid (ri_src (ri_of_own (ownI_lit w.heap.size w2 [x] #[.int .i64 x] w2.heap.size 1 rfl hb2.out.size rfl rfl (by unfold maxLen; omega))))
        go_wp2_with (at_builtin; refine wpList_append_src rfl _ _ 22 rfl w.heap.size 3 i0 (.int .i64 0) 8 Tryz.underlying22 hi hz0 hz1 hz2 rfl _ _ _ rfl o3.out _ _ rfl s3.out (oneCellI _) (by simp only [List.length_map, List.length_append, List.length_take, List.length_drop, List.length_cons, List.length_nil, List.length_singleton]; unfold maxLen; omega) (by simp only [List.length_map, List.length_append, List.length_take, List.length_drop, List.length_cons, List.length_nil, List.length_singleton]; omega) b3.out.size ?_; intro v5 w5 ho5 hg5; have o5 := Lib.hid (ownI_of_row (l := m ++ [x]) ho5 (by (try simp); try omega) (by (try simp); try omega)); have b5 := Lib.hid (below_row b3.out hg5 b3.out.size o3.out (Nat.le_refl _)); clear ho5 hg5)
        go_roundg (l.length - (k + 1))
        case measure => omega
        case rel => exact ⟨k + 1, by omega, by go_num, rfl, by rw [hst.out]; exact o5.out, b5.out⟩
      · have hst := hstep.out
        rw [hcs, List.reverse_reverse] at hst
        replace hst := Lib.hid hst
        clear hstep hcs
        have hj0 : decide ((j : Int) < 0) = false := by simp
        have o3 := Lib.hid (ownI_lit w.heap.size w2 [] #[] w2.heap.size 0 rfl hb2.out.size rfl rfl (by unfold maxLen; omega))
        have b3 := Lib.hid (hb2.out.alloc hb2.out.size (.cells #[] 3))
        have s3 := Lib.hid (ri_src (ri_of_own (ownI_alloc o2.out (.cells #[] 3))))
        go_upto_region 9 with (at_builtin; refine wpList_append_src rfl _ _ 22 rfl w.heap.size 3 i0 (.int .i64 0) 8 Tryz.underlying22 hi hz0 hz1 hz2 rfl _ _ _ rfl o3.out _ _ rfl s3.out (oneCellI _) (by simp only [List.length_map, List.length_append, List.length_take, List.length_drop, List.length_cons, List.length_nil, List.length_singleton]; unfold maxLen; omega) (by simp only [List.length_map, List.length_append, List.length_take, List.length_drop, List.length_cons, List.length_nil, List.length_singleton]; omega) b3.out.size ?_; intro v5 w5 ho5 hg5; have o5 := Lib.hid (ownI_of_row (l := m) ho5 (by (try simp); try omega) (by (try simp); try omega)); have b5 := Lib.hid (below_row b3.out hg5 b3.out.size o3.out (Nat.le_refl _)); clear ho5 hg5)
        obtain ⟨g, cp, hvg, hB, hg, hcell5⟩ := ownI_open o5.out (by omega)
        subst hvg
        have hcj := hcell5 j hjm
        have hfr := World.ownsRow.frozenAt o5.out j
        have o6 := Lib.hid (ownI_store o5.out rfl j y)
        have b6 := Lib.hid (b5.out.setCell (p := ⟨g, j, none⟩) hB (.int .i64 y))
        clear hcell5
        go_wp2_with fail
        go_roundg (l.length - (k + 1))
        case measure => omega
        case rel => exact ⟨k + 1, by omega, by go_num, rfl, by rw [hst.out]; exact o6.out, b6.out⟩
    · obtain rfl : k = l.length := by omega
      have hlt' : decide ((l.length : Int) < (l.length : Int)) = false := by simp
      rw [List.take_length] at hown
      replace hown := Lib.hid hown
      replace hbel := Lib.hid hbel
      go_wp2_with fail
      go_ret
      exact ⟨_, rfl, hown.out, hbel.out⟩

end Go.Proofs.YtfmnecknfmgggaaGreatDoor
