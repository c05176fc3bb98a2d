/- Layer 15: the walk of MachParts. -/
import Derived.Test.YtiidjkhkcckmkaaGreatDoorMaW0
import Derived.Test.YtiidjkhkcckmkaaGreatDoorMaL
import Derived.Test.YtiidjkhkcckmkaaGreatDoorMaR0
import Derived.Test.YtiidjkhkcckmkaaGreatDoorKP
import Derived.Test.YtiidjkhkcckmkaaGreatDoorBasP
import Derived.Deep.RegionHeld
import Derived.Deep.LoopGhost
import Derived.Deep.DeepCutAuto
import Derived.OrdersHeld
namespace Go.Proofs.YtiidjkhkcckmkaaGreatDoor
set_option linter.unusedSimpArgs false
set_option linter.unusedVariables false
open Go.RowKit Go.Lib
open Mch (MS)
set_option maxHeartbeats 25600000 in
set_option maxRecDepth 100000 in
theorem machParts_walk (hN0 : NewC15) (hS0 : SaneC15) (hF0 : FeedC15) (hK0 : CostC15) (hA0 : AllC15) (kind : Int) (va : Value) (a : List Int) (vb : Value) (b' : List Int) (w : World) (hT : Tabs w) (hkd : I64 kind) (hva : RI w va a ∧ WfI a) (hvb : RI w vb b' ∧ WfI b') :
    Calls Tryz.prog 6 #[.int .i64 kind, va, vb] w fun e w' => e = .returned (.bool true) ∧ Below w.heap.size w w' := by
  obtain ⟨hra, hwa⟩ := hva
  obtain ⟨hrb, hwb⟩ := hvb
  obtain ⟨pa, ca, rfl⟩ := ri_form hra
  obtain ⟨pb, cb, rfl⟩ := ri_form hrb
  obtain ⟨i0, hi, hz0, hz1, hz2⟩ := info_parts info_i
  have hawake := Lib.hid (fun W h => awake15 hN0 hS0 hF0 hK0 hA0 W h)
  replace hT := Lib.hid hT
  replace hra := Lib.hid hra
  replace hrb := Lib.hid hrb
  have hsrca := Lib.hid (fun W (h : Below w.heap.size w W) => ri_src (ri_below hra.out h))
  have hsrcb := Lib.hid (fun W (h : Below w.heap.size w W) => ri_src (ri_below hrb.out h))
  by_cases hl : a.length ≤ 40 ∧ b'.length ≤ 40
  · obtain ⟨hla, hlb⟩ := hl
    have hl1 : decide (40 < a.length) = false := decide_eq_false (by omega)
    have hl2 : decide (40 < b'.length) = false := decide_eq_false (by omega)
    have hl3 : ¬ (40 : Int) < (a.length : Int) := by omega
    have hl4 : ¬ (40 : Int) < (b'.length : Int) := by omega
    have hnew := Lib.hid (fun W => hN0 kind W hkd)
    have hfeed := fun (l : List Int) (x : Int) (hx : I64 x) V W t h => hF0 V (Mch.feedsM (Mch.newM kind) l).1 x W t (Mch.small_sane (Mch.feeds_sane kind l)) h hx
    have hall := fun V W t h => hA0 kind V (a ++ b') W t (by simp; omega) h (fun x hx => (List.mem_append.1 hx).elim (hwa x) (hwb x)) hkd
    have hpre := Mch.told_begins kind a b'
    obtain ⟨L, hL⟩ : ∃ L, Mch.allM kind (a ++ b') = L := ⟨_, rfl⟩
    rw [hL] at hall hpre
    obtain ⟨G, hG⟩ : ∃ G, Mch.feedsM (Mch.newM kind) = G := ⟨_, rfl⟩
    have hG0 : G [] = (Mch.newM kind, []) := by rw [← hG]; rfl
    have hG1 : ∀ l x, G (l ++ [x]) = ((Mch.feedM (G l).1 x).1, (G l).2 ++ (Mch.feedM (G l).1 x).2) := by rw [← hG]; exact Mch.feeds_snoc _
    rw [hG] at hfeed hpre
    unfold Told at hall
    replace hfeed := Lib.hid hfeed
    replace hall := Lib.hid hall
    replace hpre := Lib.hid hpre
    replace hG0 := Lib.hid hG0
    replace hG1 := Lib.hid hG1
    replace hwa := Lib.hid hwa
    clear hL hG hN0 hS0 hF0 hK0 hA0 hwb
    go_enter Tryz.func6, Tryz.ntmps6
    go_wp2_with fail
    refine (hawake.out _ hT.out).mono ?_
    rintro e w1 ⟨rfl, q1⟩
    have hb1 := Lib.hid q1
    replace hT := Lib.hid (tabs_next hT.out q1)
    clear q1
    go_wp2_with fail
    refine (hnew.out _).mono ?_
    rintro e w2 ⟨vs, rfl, rs, q2⟩
    have hb2 := Lib.hid (below_on hb1.out q2)
    replace hT := Lib.hid (tabs_next hT.out q2)
    obtain ⟨pn, cn, pg, cg, pc, cc, rfl⟩ := rm_form rs
    have st0 : Fed15 41 w2.heap.size w2 (G []) (.slice none 0 0) (w2.alloc (.cells (cellsM (Mch.newM kind).kind ⟨(Mch.newM kind).d.toArray⟩ pn (Mch.newM kind).n.length cn pg (Mch.newM kind).g.length cg (Mch.newM kind).s.on (Mch.newM kind).s.kind (Mch.newM kind).s.pict (Mch.newM kind).s.odd pc (Mch.newM kind).c.length cc) 41)) := by
      rw [hG0.out]
      exact ⟨pn, cn, pg, cg, pc, cc, blk_new _ _ _, rm_below rs (below_new w2 _), rm_off rs (Nat.le_refl _), (fun j e => by cases e), ownI_nil _ _, below_new w2 _⟩
    obtain ⟨K, hK⟩ : ∃ K, Mch.newM kind = K := ⟨_, rfl⟩
    rw [hK] at st0 ⊢
    replace st0 := Lib.hid st0
    unfold cellsM at st0 ⊢
    clear q2 rs hK hb1
    have hraW := Lib.hid (ri_below hra.out hb2.out)
    go_wp2_with fail
    go_loopg [9, 10] a.length (fun g vo vi wr => ∃ k : Nat, k ≤ a.length ∧ vi = .int .i64 k ∧ g = a.length - k ∧ (G (a.take k)).2.length ≤ 140 * k ∧ Fed15 41 w2.heap.size w2 (G (a.take k)) vo wr)
    case atStart => exact ⟨0, Nat.zero_le _, rfl, rfl, by rw [List.take_zero, hG0.out]; simp, by rw [List.take_zero]; exact st0.out⟩
    case round =>
      obtain ⟨k, hk, rfl, rfl, hol, pn', cn', pg', cg', pc', cc', hbox, hrm, hof, hap, hown, hbel⟩ := hrel
      by_cases hlt : k < a.length
      · have hlt' : (k : Int) < (a.length : Int) := by omega
        obtain ⟨b, off, rfl, hb, hcell⟩ := ri_at hraW.out (by omega)
        have hc : wr.cell? ⟨b, off + k, none⟩ = some (.int .i64 a[k]) := (hbel.cell hb).trans (hcell k hlt)
        have hx64 := hwa.out a[k] (List.getElem_mem hlt)
        have hfd := hfeed.out (a.take k) a[k] hx64
        have hsn := hG1.out (a.take k) a[k]
        rw [← List.take_succ_eq_append_getElem hlt] at hsn
        obtain ⟨x, hx⟩ : ∃ x, a[k] = x := ⟨_, rfl⟩
        rw [hx] at hc hfd hsn
        have hft := Mch.feed_told (G (a.take k)).1 x
        obtain ⟨q, hq⟩ : ∃ q, Mch.feedM (G (a.take k)).1 x = q := ⟨_, rfl⟩
        rw [hq] at hfd hsn hft
        obtain ⟨Q, hQ⟩ : ∃ Q, G (a.take k) = Q := ⟨_, rfl⟩
        rw [hQ] at hfd hsn hbox hrm hof hap hown hol
        obtain ⟨M, o⟩ := Q
        obtain ⟨q1, q2⟩ := q
        dsimp only at hfd hsn hbox hrm hof hap hown hol hft
        obtain ⟨S, hS⟩ : ∃ S : ByteArray, (⟨M.d.toArray⟩ : ByteArray) = S := ⟨_, rfl⟩
        rw [hS] at hbox hrm hof hap
        unfold cellsM at hbox hrm hof hap
        have hkA : w2.heap.size < wr.heap.size := blk_lt hbox
        have hkB : b < wr.heap.size := Nat.lt_of_lt_of_le hb hbel.size
        have hTr := tabs_next (tabs_next hT.out (Below.refl _ _)) hbel
        have H2 := Lib.hid (show wr.cell? ⟨w2.heap.size, 0, none⟩ = some (.int .i64 M.kind) ∧ wr.cell? ⟨w2.heap.size, 1, none⟩ = some (.string S) ∧ wr.cell? ⟨w2.heap.size, 2, none⟩ = some (.slice pn' M.n.length cn') ∧ wr.cell? ⟨w2.heap.size, 3, none⟩ = some (.slice pg' M.g.length cg') ∧ wr.cell? ⟨w2.heap.size, 4, none⟩ = some (.bool M.s.on) ∧ wr.cell? ⟨w2.heap.size, 5, none⟩ = some (.int .i64 M.s.kind) ∧ wr.cell? ⟨w2.heap.size, 6, none⟩ = some (.bool M.s.pict) ∧ wr.cell? ⟨w2.heap.size, 7, none⟩ = some (.bool M.s.odd) ∧ wr.cell? ⟨w2.heap.size, 8, none⟩ = some (.slice pc' M.c.length cc') ∧ wr.cell? ⟨b, off + k, none⟩ = some (.int .i64 x) from ⟨blk_cell hbox 0 _ rfl, blk_cell hbox 1 _ rfl, blk_cell hbox 2 _ rfl, blk_cell hbox 3 _ rfl, blk_cell hbox 4 _ rfl, blk_cell hbox 5 _ rfl, blk_cell hbox 6 _ rfl, blk_cell hbox 7 _ rfl, blk_cell hbox 8 _ rfl, hc⟩)
        replace hfd := Lib.hid hfd
        replace hsn := Lib.hid hsn
        replace hbox := Lib.hid hbox
        replace hrm := Lib.hid hrm
        replace hof := Lib.hid hof
        replace hap := Lib.hid hap
        replace hown := Lib.hid hown
        replace hbel := Lib.hid hbel
        replace hTr := Lib.hid hTr
        clear hcell hx hq hc hQ hS st0
        go_upto_region 9 with (fail)
        generalize hwq : wr = wq at *
        go_cut [11, 12] (fun u t wx => Mid15 41 wq (.agg #[.int .i64 M.kind, .string S, .slice pn' M.n.length cn', .slice pg' M.g.length cg', .bool M.s.on, .int .i64 M.s.kind, .bool M.s.pict, .bool M.s.odd, .slice pc' M.c.length cc']) (q1, q2) u t wx)
        case first =>
          refine wp_region_held_drew (S := fun w' => w'.cell? ⟨w2.heap.size, 0, none⟩ = some (.int .i64 M.kind) ∧ w'.cell? ⟨w2.heap.size, 1, none⟩ = some (.string S) ∧ w'.cell? ⟨w2.heap.size, 2, none⟩ = some (.slice pn' M.n.length cn') ∧ w'.cell? ⟨w2.heap.size, 3, none⟩ = some (.slice pg' M.g.length cg') ∧ w'.cell? ⟨w2.heap.size, 4, none⟩ = some (.bool M.s.on) ∧ w'.cell? ⟨w2.heap.size, 5, none⟩ = some (.int .i64 M.s.kind) ∧ w'.cell? ⟨w2.heap.size, 6, none⟩ = some (.bool M.s.pict) ∧ w'.cell? ⟨w2.heap.size, 7, none⟩ = some (.bool M.s.odd) ∧ w'.cell? ⟨w2.heap.size, 8, none⟩ = some (.slice pc' M.c.length cc') ∧ w'.cell? ⟨b, off + k, none⟩ = some (.int .i64 x)) (by kernel_rfl) (held10_drew H2.out) (fun hS => ?_)
          refine' wpAnyH_take (i := 0) (oi := ⟨_, _, _, _, _, _⟩) (v := _) rfl (by kernel_rfl) (by kernel_rfl) (by kernel_rfl) (fun _ _ _ h => h) (Or.inl ⟨by rfl, ?hy0⟩) hS ?rest0
          case hy0 => (intro wz hSw; (try dsimp only at hSw); go_simp; try with_reducible rfl)
          try simp only [Act.put, List.setIfInBounds_toArray, List.set_cons_zero, List.set_cons_succ]
          refine' wpAnyH_take (i := 1) (oi := ⟨_, _, _, _, _, _⟩) (v := _) rfl (by kernel_rfl) (by kernel_rfl) (by kernel_rfl) (fun _ _ _ h => h) (Or.inl ⟨by rfl, ?hy1⟩) hS ?rest1
          case hy1 => (intro wz hSw; (try dsimp only at hSw); go_simp; try with_reducible rfl)
          try simp only [Act.put, List.setIfInBounds_toArray, List.set_cons_zero, List.set_cons_succ]
          refine' wpAnyH_take (i := 2) (oi := ⟨_, _, _, _, _, _⟩) (v := _) rfl (by kernel_rfl) (by kernel_rfl) (by kernel_rfl) (fun _ _ _ h => h) (Or.inl ⟨by rfl, ?hy2⟩) hS ?rest2
          case hy2 => (intro wz hSw; (try dsimp only at hSw); go_simp; try with_reducible rfl)
          try simp only [Act.put, List.setIfInBounds_toArray, List.set_cons_zero, List.set_cons_succ]
          refine' wpAnyH_take (i := 3) (oi := ⟨_, _, _, _, _, _⟩) (v := _) rfl (by kernel_rfl) (by kernel_rfl) (by kernel_rfl) (fun _ _ _ h => h) (Or.inl ⟨by rfl, ?hy3⟩) hS ?rest3
          case hy3 => (intro wz hSw; (try dsimp only at hSw); go_simp; try with_reducible rfl)
          try simp only [Act.put, List.setIfInBounds_toArray, List.set_cons_zero, List.set_cons_succ]
          refine' wpAnyH_take (i := 4) (oi := ⟨_, _, _, _, _, _⟩) (v := _) rfl (by kernel_rfl) (by kernel_rfl) (by kernel_rfl) (fun _ _ _ h => h) (Or.inl ⟨by rfl, ?hy4⟩) hS ?rest4
          case hy4 => (intro wz hSw; (try dsimp only at hSw); go_simp; try with_reducible rfl)
          try simp only [Act.put, List.setIfInBounds_toArray, List.set_cons_zero, List.set_cons_succ]
          refine wpAnyH_ready (rs := [5, 9]) (by kernel_rfl) (by simp) (AllReadyH.cons rfl (fun K hK => ?_) (AllReadyH.cons rfl (fun K hK => ?_) AllReadyH.nil))
          · go_simp
            go_at_call 10
            refine (hfd.out _ _ (tabs_drew15 hTr.out) (rm_drew hrm.out)).mono ?_
            rintro e w3 ⟨va, vt, rfl, ha, ht, hoff, hb3⟩
            obtain ⟨qn, dn, qg, dg, qc, dc, rfl⟩ := rm_form ha
            unfold cellsM at ha hoff ⊢
            replace ha := Lib.hid ha
            replace ht := Lib.hid ht
            replace hoff := Lib.hid hoff
            go_wp2_with fail
            refine hK.out _ _ (held10_at hb3 (held10_drew H2.out)) (fun hSn => ?_)
            clear hS
            have hS := hSn
            clear hSn
            clear hK K
            try simp only [Act.put, List.setIfInBounds_toArray, List.set_cons_zero, List.set_cons_succ]
            have h3 := Lib.hid hS
            refine' wpAnyH_take (i := 6) (oi := ⟨_, _, _, _, _, _⟩) (v := _) rfl (by kernel_rfl) (by kernel_rfl) (by kernel_rfl) (fun _ _ _ h => h) (Or.inl ⟨by rfl, ?hy6⟩) hS ?rest6
            case hy6 => (intro wz hSw; (try dsimp only at hSw); go_simp; try with_reducible rfl)
            try simp only [Act.put, List.setIfInBounds_toArray, List.set_cons_zero, List.set_cons_succ]
            refine' wpAnyH_take (i := 7) (oi := ⟨_, _, _, _, _, _⟩) (v := _) rfl (by kernel_rfl) (by kernel_rfl) (by kernel_rfl) (fun _ _ _ h => h) (Or.inl ⟨by rfl, ?hy7⟩) hS ?rest7
            case hy7 => (intro wz hSw; (try dsimp only at hSw); go_simp; try with_reducible rfl)
            try simp only [Act.put, List.setIfInBounds_toArray, List.set_cons_zero, List.set_cons_succ]
            refine' wpAnyH_take (i := 8) (oi := ⟨_, _, _, _, _, _⟩) (v := _) rfl (by kernel_rfl) (by kernel_rfl) (by kernel_rfl) (fun _ _ _ h => h) (Or.inl ⟨by rfl, ?hy8⟩) hS ?rest8
            case hy8 => (intro wz hSw; (try dsimp only at hSw); go_simp; try with_reducible rfl)
            try simp only [Act.put, List.setIfInBounds_toArray, List.set_cons_zero, List.set_cons_succ]
            refine wpAnyH_ready (rs := [9]) (by kernel_rfl) (by simp) (AllReadyH.cons rfl (fun K hK => ?_) AllReadyH.nil)
            go_simp
            go_wp2_with fail
            refine hK.out _ _ (held10_at (below_new w3 _) h3.out) (fun hSn => ?_)
            clear hS
            have hS := hSn
            clear hSn
            clear hK K
            try simp only [Act.put, List.setIfInBounds_toArray, List.set_cons_zero, List.set_cons_succ]
            refine wpAnyH_ready (rs := [10]) (by kernel_rfl) (by simp) (AllReadyH.cons rfl (fun K hK => ?_) AllReadyH.nil)
            go_simp
            go_wp2_with fail
            refine hK.out _ _ (held10_at (below_new w3 _) h3.out) (fun hSn => ?_)
            clear hS
            have hS := hSn
            clear hSn
            clear hK K
            try simp only [Act.put, List.setIfInBounds_toArray, List.set_cons_zero, List.set_cons_succ]
            refine' wpAnyH_take (i := 11) (oi := ⟨_, _, _, _, _, _⟩) (v := _) rfl (by kernel_rfl) (by kernel_rfl) (by kernel_rfl) (fun _ _ _ h => h) (Or.inl ⟨by rfl, ?hy11⟩) hS ?rest11
            case hy11 => (intro wz hSw; (try dsimp only at hSw); go_simp; try with_reducible rfl)
            try simp only [Act.put, List.setIfInBounds_toArray, List.set_cons_zero, List.set_cons_succ]
            refine wpAnyH_done (by kernel_rfl) ?_ _
            go_simp
            go_wp2_with fail
            go_meet
            exact mid15_last ha.out ht.out hoff.out hb3
          · go_simp
            go_wp2_with fail
            refine hK.out _ _ (held10_at (below_new _ _) (held10_drew H2.out)) (fun hSn => ?_)
            clear hS
            have hS := hSn
            clear hSn
            clear hK K
            try simp only [Act.put, List.setIfInBounds_toArray, List.set_cons_zero, List.set_cons_succ]
            refine wpAnyH_ready (rs := [5]) (by kernel_rfl) (by simp) (AllReadyH.cons rfl (fun K hK => ?_) AllReadyH.nil)
            go_simp
            go_at_call 10
            refine (hfd.out _ _ (tabs_drew15 (tabs_next hTr.out (below_new wq _))) (rm_drew (rm_below hrm.out (below_new wq _)))).mono ?_
            rintro e w3 ⟨va, vt, rfl, ha, ht, hoff, hb3⟩
            obtain ⟨qn, dn, qg, dg, qc, dc, rfl⟩ := rm_form ha
            unfold cellsM at ha hoff ⊢
            replace ha := Lib.hid ha
            replace ht := Lib.hid ht
            replace hoff := Lib.hid hoff
            go_wp2_with fail
            refine hK.out _ _ (held10_at hb3 hS) (fun hSn => ?_)
            clear hS
            have hS := hSn
            clear hSn
            clear hK K
            try simp only [Act.put, List.setIfInBounds_toArray, List.set_cons_zero, List.set_cons_succ]
            have h3 := Lib.hid hS
            refine' wpAnyH_take (i := 6) (oi := ⟨_, _, _, _, _, _⟩) (v := _) rfl (by kernel_rfl) (by kernel_rfl) (by kernel_rfl) (fun _ _ _ h => h) (Or.inl ⟨by rfl, ?hyB6⟩) hS ?restB6
            case hyB6 => (intro wz hSw; (try dsimp only at hSw); go_simp; try with_reducible rfl)
            try simp only [Act.put, List.setIfInBounds_toArray, List.set_cons_zero, List.set_cons_succ]
            refine' wpAnyH_take (i := 7) (oi := ⟨_, _, _, _, _, _⟩) (v := _) rfl (by kernel_rfl) (by kernel_rfl) (by kernel_rfl) (fun _ _ _ h => h) (Or.inl ⟨by rfl, ?hyB7⟩) hS ?restB7
            case hyB7 => (intro wz hSw; (try dsimp only at hSw); go_simp; try with_reducible rfl)
            try simp only [Act.put, List.setIfInBounds_toArray, List.set_cons_zero, List.set_cons_succ]
            refine' wpAnyH_take (i := 8) (oi := ⟨_, _, _, _, _, _⟩) (v := _) rfl (by kernel_rfl) (by kernel_rfl) (by kernel_rfl) (fun _ _ _ h => h) (Or.inl ⟨by rfl, ?hyB8⟩) hS ?restB8
            case hyB8 => (intro wz hSw; (try dsimp only at hSw); go_simp; try with_reducible rfl)
            try simp only [Act.put, List.setIfInBounds_toArray, List.set_cons_zero, List.set_cons_succ]
            have h5 := blk_below (w := (wq.alloc (.cells #[.int .i64 0, .string ⟨#[]⟩, .slice none 0 0, .slice none 0 0, .bool false, .int .i64 0, .bool false, .bool false, .slice none 0 0] 41)).drew) (blk_new wq #[.int .i64 0, .string ⟨#[]⟩, .slice none 0 0, .slice none 0 0, .bool false, .int .i64 0, .bool false, .bool false, .slice none 0 0] 41) hb3
            have h50 := blk_cell h5 0 _ rfl
            have f50 := blk_thaw h5 0
            have h51 := blk_cell h5 1 _ rfl
            have f51 := blk_thaw h5 1
            have h52 := blk_cell h5 2 _ rfl
            have f52 := blk_thaw h5 2
            have h53 := blk_cell h5 3 _ rfl
            have f53 := blk_thaw h5 3
            have h54 := blk_cell h5 4 _ rfl
            have f54 := blk_thaw h5 4
            have h55 := blk_cell h5 5 _ rfl
            have f55 := blk_thaw h5 5
            have h56 := blk_cell h5 6 _ rfl
            have f56 := blk_thaw h5 6
            have h57 := blk_cell h5 7 _ rfl
            have f57 := blk_thaw h5 7
            have h58 := blk_cell h5 8 _ rfl
            have f58 := blk_thaw h5 8
            replace h5 := Lib.hid h5
            refine wpAnyH_ready (rs := [10]) (by kernel_rfl) (by simp) (AllReadyH.cons rfl (fun K hK => ?_) AllReadyH.nil)
            go_simp
            go_wp2_with fail
            refine hK.out _ _ (held10_set9 _ _ _ _ _ _ _ _ _ h3.out (by simp; omega) (by simp; omega) (by simp; omega) (by simp; omega) (by simp; omega) (by simp; omega) (by simp; omega) (by simp; omega) (by simp; omega) (by simp; omega)) (fun hSn => ?_)
            clear hS
            have hS := hSn
            clear hSn
            clear hK K
            try simp only [Act.put, List.setIfInBounds_toArray, List.set_cons_zero, List.set_cons_succ]
            refine' wpAnyH_take (i := 11) (oi := ⟨_, _, _, _, _, _⟩) (v := _) rfl (by kernel_rfl) (by kernel_rfl) (by kernel_rfl) (fun _ _ _ h => h) (Or.inl ⟨by rfl, ?hyB11⟩) hS ?restB11
            case hyB11 => (intro wz hSw; (try dsimp only at hSw); go_simp; try with_reducible rfl)
            try simp only [Act.put, List.setIfInBounds_toArray, List.set_cons_zero, List.set_cons_succ]
            refine wpAnyH_done (by kernel_rfl) ?_ _
            go_simp
            go_wp2_with fail
            go_meet
            exact mid15_first hrm.out ha.out ht.out hoff.out hb3
        case rest =>
          obtain ⟨bt, va', cs, rfl, hbt, rfl, hbx, ra, rt, hoff, ho1, ho2, hbc⟩ := hcut
          obtain ⟨qn, dn, qg, dg, qc, dc, ecs⟩ := rm_form ra
          injection ecs with ecs
          subst ecs
          obtain ⟨pt, ct, rfl⟩ := ri_form rt
          unfold cellsM at hbx ra hoff ho1
          dsimp only at hbx ra rt hoff ho1 ho2
          have hboxc := blk_below hbox.out hbc
          have kt0 := blk_cell hbx 0 _ rfl
          have ks0 := blk_cell hboxc 0 _ rfl
          have fs0 := blk_thaw hboxc 0
          have kt1 := blk_cell hbx 1 _ rfl
          have ks1 := blk_cell hboxc 1 _ rfl
          have fs1 := blk_thaw hboxc 1
          have kt2 := blk_cell hbx 2 _ rfl
          have ks2 := blk_cell hboxc 2 _ rfl
          have fs2 := blk_thaw hboxc 2
          have kt3 := blk_cell hbx 3 _ rfl
          have ks3 := blk_cell hboxc 3 _ rfl
          have fs3 := blk_thaw hboxc 3
          have kt4 := blk_cell hbx 4 _ rfl
          have ks4 := blk_cell hboxc 4 _ rfl
          have fs4 := blk_thaw hboxc 4
          have kt5 := blk_cell hbx 5 _ rfl
          have ks5 := blk_cell hboxc 5 _ rfl
          have fs5 := blk_thaw hboxc 5
          have kt6 := blk_cell hbx 6 _ rfl
          have ks6 := blk_cell hboxc 6 _ rfl
          have fs6 := blk_thaw hboxc 6
          have kt7 := blk_cell hbx 7 _ rfl
          have ks7 := blk_cell hboxc 7 _ rfl
          have fs7 := blk_thaw hboxc 7
          have kt8 := blk_cell hbx 8 _ rfl
          have ks8 := blk_cell hboxc 8 _ rfl
          have fs8 := blk_thaw hboxc 8
          have hnew' := blk_set9 hboxc (.int .i64 q1.kind) (.string ⟨q1.d.toArray⟩) (.slice qn q1.n.length dn) (.slice qg q1.g.length dg) (.bool q1.s.on) (.int .i64 q1.s.kind) (.bool q1.s.pict) (.bool q1.s.odd) (.slice qc q1.c.length dc)
          have hsame := same_set9 wc w2.heap.size (.int .i64 q1.kind) (.string ⟨q1.d.toArray⟩) (.slice qn q1.n.length dn) (.slice qg q1.g.length dg) (.bool q1.s.on) (.int .i64 q1.s.kind) (.bool q1.s.pict) (.bool q1.s.odd) (.slice qc q1.c.length dc)
          have hoS := hoff w2.heap.size hkA hof.out
          have ra2 := rm_but ra hsame (fun j e => e ▸ hoS.1)
          have rt2 := ri_src (ri_but rt hsame (fun j e => e ▸ hoS.2))
          have hnot := own_not hown.out (Nat.lt_succ_self w2.heap.size)
          have own2 := ownI_but (ownI_below hown.out hbc) hsame (fun j e h => hnot (by rw [h, e]))
          have hap2 := Lib.hid (fun j e => (hoff j (World.ownsRow.lt hown.out j e).2 (hap.out j e)).1)
          have hbel2 := below_set9 (hbel.out.trans (hbc.mono hbel.out.size)) (Nat.le_refl _) (.int .i64 q1.kind) (.string ⟨q1.d.toArray⟩) (.slice qn q1.n.length dn) (.slice qg q1.g.length dg) (.bool q1.s.on) (.int .i64 q1.s.kind) (.bool q1.s.pict) (.bool q1.s.odd) (.slice qc q1.c.length dc)
          have hsz : w2.heap.size + 1 ≤ (set9 wc w2.heap.size (.int .i64 q1.kind) (.string ⟨q1.d.toArray⟩) (.slice qn q1.n.length dn) (.slice qg q1.g.length dg) (.bool q1.s.on) (.int .i64 q1.s.kind) (.bool q1.s.pict) (.bool q1.s.odd) (.slice qc q1.c.length dc)).heap.size := by rw [set9_size]; exact Nat.le_trans hkA hbc.size
          obtain ⟨W9, hW9⟩ : ∃ W9, set9 wc w2.heap.size (.int .i64 q1.kind) (.string ⟨q1.d.toArray⟩) (.slice qn q1.n.length dn) (.slice qg q1.g.length dg) (.bool q1.s.on) (.int .i64 q1.s.kind) (.bool q1.s.pict) (.bool q1.s.odd) (.slice qc q1.c.length dc) = W9 := ⟨_, rfl⟩
          rw [hW9] at hnew' ra2 rt2 own2 hbel2 hsz
          unfold set9 at hW9
          have h8a := Lib.hid (show o.length + q2.length ≤ maxLen by unfold maxLen; omega)
          have h8b := Lib.hid (show (o.length + q2.length) * 8 ≤ 140737488355328 by omega)
          have hoS1 := Lib.hid hoS.1
          replace hnew' := Lib.hid hnew'
          replace ra2 := Lib.hid ra2
          replace rt2 := Lib.hid rt2
          replace own2 := Lib.hid own2
          replace hbel2 := Lib.hid hbel2
          replace hsz := Lib.hid hsz
          replace hbx := Lib.hid hbx
          clear ra rt hoff ho1 ho2 hbc hboxc hsame hoS hnot H2 hfd hbox hrm hof hap hown hbel hwq hTr
          go_upto_region 11 with (fail)
          try rw [hW9]
          clear hW9 kt0 ks0 fs0 kt1 ks1 fs1 kt2 ks2 fs2 kt3 ks3 fs3 kt4 ks4 fs4 kt5 ks5 fs5 kt6 ks6 fs6 kt7 ks7 fs7 kt8 ks8 fs8
          go_wp2_with (at_builtin; refine wpList_append_src3 rfl _ _ 24 rfl (w2.heap.size + 1) 3 i0 (.int .i64 0) 8 Tryz.underlying24 hi hz0 hz1 hz2 rfl _ _ _ rfl own2.out _ _ rfl rt2.out (oneCellI q2) (by rw [List.length_map]; exact h8a.out) (by rw [List.length_map]; exact h8b.out) hsz.out ?_; intro v5 w5 hown5 hgrow5 hlies5; have o5 := Lib.hid (ownI_of_row (l := o ++ q2) hown5 (by simp) (by simp)); have x5 := Lib.hid (blk_grown hnew'.out hgrow5 (own_not own2.out (Nat.lt_succ_self _))); have r5 := Lib.hid (rm_but ra2.out (same_grown hgrow5) (fun j e => hap2.out j e)); have p5 := Lib.hid (off_lies hlies5 (fun j e => hap2.out j e) ra2.out); have b5 := Lib.hid (below_row hbel2.out hgrow5 (Nat.le_trans (Nat.le_succ _) hsz.out) own2.out (Nat.le_succ _)); clear hown5 hgrow5 hlies5)
          go_roundg (a.length - (k + 1))
          case measure => omega
          case rel => exact ⟨k + 1, by omega, by go_num, rfl, by rw [hsn.out]; simp; omega, by rw [hsn.out]; exact ⟨qn, dn, qg, dg, qc, dc, x5.out, r5.out, hoS1.out, p5.out, o5.out, b5.out⟩⟩
      · obtain rfl : k = a.length := by omega
        have hlt' : decide ((a.length : Int) < (a.length : Int)) = false := by simp
        rw [List.take_length] at hown hol
        have hpr := hpre.out
        obtain ⟨O, hO⟩ : ∃ O, (G a).2 = O := ⟨_, rfl⟩
        rw [hO] at hown hol hpr
        obtain ⟨R, hR⟩ := hpr
        have hOL : O.length ≤ L.length := by rw [← hR, List.length_append]; omega
        have hOL2 : decide ((L.length : Int) < (O.length : Int)) = false := decide_eq_false (by omega)
        have hOL3 : decide (L.length < O.length) = false := decide_eq_false (by omega)
        have hOe : ∀ i (h : i < O.length), L[i]'(by omega) = O[i] := fun i h => by subst hR; simp [h]
        have rO := ri_of_own hown
        obtain ⟨pO, cO, rfl⟩ := ri_form rO
        have bq := Lib.hid (hb2.out.trans (hbel.mono hb2.out.size))
        replace hT := Lib.hid (tabs_next hT.out hbel)
        replace rO := Lib.hid rO
        replace hOe := Lib.hid hOe
        have e1 := Lib.hid (ownI_lit wr.heap.size wr [] #[] wr.heap.size 0 rfl (Nat.le_refl _) rfl rfl (by unfold maxLen; omega))
        have g1 := Lib.hid (below_new wr (.cells #[] 3))
        have s1 := Lib.hid (hsrca.out _ (below_on bq.out g1.out))
        clear hbox hrm hof hap hown hbel hR hO st0 hraW
        go_upto_region 13 with (at_builtin; refine wpList_append_src rfl _ _ 24 rfl wr.heap.size 3 i0 (.int .i64 0) 8 Tryz.underlying24 hi hz0 hz1 hz2 rfl _ _ _ rfl e1.out _ _ rfl s1.out (oneCellI _) (by unfold maxLen; first | (simp; done) | (simp; omega)) (by first | (simp; done) | (simp; omega)) g1.out.size ?_; intro v2 w2 ho2 hg2; have o2 := Lib.hid (ownI_of_row (l := a) ho2 (by (try simp); try omega) (by (try simp); try omega)); have b2 := Lib.hid (below_row g1.out hg2 g1.out.size e1.out (Nat.le_refl _)); clear ho2 hg2)
        have s2 := Lib.hid (hsrcb.out _ (below_on bq.out b2.out))
        clear e1 s1 g1
        go_wp2_with (at_builtin; refine wpList_append_src rfl _ _ 24 rfl wr.heap.size 3 i0 (.int .i64 0) 8 Tryz.underlying24 hi hz0 hz1 hz2 rfl _ _ _ rfl o2.out _ _ rfl s2.out (oneCellI _) (by unfold maxLen; first | (simp; done) | (simp; omega)) (by first | (simp; done) | (simp; omega)) b2.out.size ?_; intro v3 w3 ho3 hg3; have o3 := Lib.hid (ownI_of_row (l := a ++ b') ho3 (by (try simp); try omega) (by (try simp); try omega)); have b3 := Lib.hid (below_row b2.out hg3 b2.out.size o2.out (Nat.le_refl _)); clear ho3 hg3)
        have rall := Lib.hid (ri_of_own o3.out)
        replace rO := Lib.hid (ri_below rO.out b3.out)
        replace bq := Lib.hid (below_on bq.out b3.out)
        replace hT := Lib.hid (tabs_next hT.out b3.out)
        clear o2 s2 b2 o3 b3
        refine (hall.out _ _ hT.out rall.out).mono ?_
        rintro e w5 ⟨vl, rfl, rl, q5⟩
        obtain ⟨pl, cl, rfl⟩ := ri_form rl
        replace rO := Lib.hid (ri_below rO.out q5)
        replace bq := Lib.hid (below_on bq.out q5)
        replace rl := Lib.hid rl
        clear q5 rall
        go_wp2_with fail
        go_loopg [15] O.length (fun g vi wx => ∃ i : Nat, i ≤ O.length ∧ vi = .int .i64 i ∧ g = O.length - i ∧ Below w5.heap.size w5 wx)
        case atStart => exact ⟨0, Nat.zero_le _, rfl, rfl, Below.refl _ _⟩
        case round =>
          obtain ⟨i, hile, rfl, rfl, hbel⟩ := hrel
          by_cases hlt : i < O.length
          · have hlt'' : (i : Int) < (O.length : Int) := by omega
            have hlt3 : (i : Int) < (L.length : Int) := by omega
            obtain ⟨b1, o1, rfl, hb1, hc1⟩ := ri_at (ri_below rO.out hbel) (by omega)
            obtain ⟨b2, o2, rfl, hb2', hc2⟩ := ri_at (ri_below rl.out hbel) (by omega)
            have k1 := hc1 i hlt
            have k2 := hc2 i (by omega)
            rw [hOe.out i hlt] at k2
            obtain ⟨x, hx⟩ : ∃ x, O[i] = x := ⟨_, rfl⟩
            rw [hx] at k1 k2
            replace hbel := Lib.hid hbel
            clear hc1 hc2 hx
            go_upto_region 20 with (fail)
            refine wp_region_held_drew (S := fun w' => w'.cell? ⟨b1, o1 + i, none⟩ = some (.int .i64 x) ∧ w'.cell? ⟨b2, o2 + i, none⟩ = some (.int .i64 x)) (by kernel_rfl) (⟨k1, k2⟩) (fun hS => ?_)
            refine' wpAnyH_take (i := 0) (oi := ⟨_, _, _, _, _, _⟩) (v := _) rfl (by kernel_rfl) (by kernel_rfl) (by kernel_rfl) (fun _ _ _ h => h) (Or.inl ⟨by rfl, ?hyC0⟩) hS ?restC0
            case hyC0 => (intro wz hSw; (try dsimp only at hSw); go_simp; try with_reducible rfl)
            try simp only [Act.put, List.setIfInBounds_toArray, List.set_cons_zero, List.set_cons_succ]
            refine' wpAnyH_take (i := 1) (oi := ⟨_, _, _, _, _, _⟩) (v := _) rfl (by kernel_rfl) (by kernel_rfl) (by kernel_rfl) (fun _ _ _ h => h) (Or.inl ⟨by rfl, ?hyC1⟩) hS ?restC1
            case hyC1 => (intro wz hSw; (try dsimp only at hSw); go_simp; try with_reducible rfl)
            try simp only [Act.put, List.setIfInBounds_toArray, List.set_cons_zero, List.set_cons_succ]
            refine' wpAnyH_take (i := 2) (oi := ⟨_, _, _, _, _, _⟩) (v := _) rfl (by kernel_rfl) (by kernel_rfl) (by kernel_rfl) (fun _ _ _ h => h) (Or.inl ⟨by rfl, ?hyC2⟩) hS ?restC2
            case hyC2 => (intro wz hSw; (try dsimp only at hSw); go_simp; try with_reducible rfl)
            try simp only [Act.put, List.setIfInBounds_toArray, List.set_cons_zero, List.set_cons_succ]
            refine' wpAnyH_take (i := 3) (oi := ⟨_, _, _, _, _, _⟩) (v := _) rfl (by kernel_rfl) (by kernel_rfl) (by kernel_rfl) (fun _ _ _ h => h) (Or.inl ⟨by rfl, ?hyC3⟩) hS ?restC3
            case hyC3 => (intro wz hSw; (try dsimp only at hSw); go_simp; try with_reducible rfl)
            try simp only [Act.put, List.setIfInBounds_toArray, List.set_cons_zero, List.set_cons_succ]
            refine' wpAnyH_take (i := 4) (oi := ⟨_, _, _, _, _, _⟩) (v := _) rfl (by kernel_rfl) (by kernel_rfl) (by kernel_rfl) (fun _ _ _ h => h) (Or.inl ⟨by rfl, ?hyC4⟩) hS ?restC4
            case hyC4 => (intro wz hSw; (try dsimp only at hSw); go_simp; try with_reducible rfl)
            try simp only [Act.put, List.setIfInBounds_toArray, List.set_cons_zero, List.set_cons_succ]
            refine' wpAnyH_take (i := 5) (oi := ⟨_, _, _, _, _, _⟩) (v := _) rfl (by kernel_rfl) (by kernel_rfl) (by kernel_rfl) (fun _ _ _ h => h) (Or.inl ⟨by rfl, ?hyC5⟩) hS ?restC5
            case hyC5 => (intro wz hSw; (try dsimp only at hSw); go_simp; try with_reducible rfl)
            try simp only [Act.put, List.setIfInBounds_toArray, List.set_cons_zero, List.set_cons_succ]
            refine' wpAnyH_take (i := 6) (oi := ⟨_, _, _, _, _, _⟩) (v := _) rfl (by kernel_rfl) (by kernel_rfl) (by kernel_rfl) (fun _ _ _ h => h) (Or.inl ⟨by rfl, ?hyC6⟩) hS ?restC6
            case hyC6 => (intro wz hSw; (try dsimp only at hSw); go_simp; try with_reducible rfl)
            try simp only [Act.put, List.setIfInBounds_toArray, List.set_cons_zero, List.set_cons_succ]
            refine' wpAnyH_take (i := 7) (oi := ⟨_, _, _, _, _, _⟩) (v := _) rfl (by kernel_rfl) (by kernel_rfl) (by kernel_rfl) (fun _ _ _ h => h) (Or.inl ⟨by rfl, ?hyC7⟩) hS ?restC7
            case hyC7 => (intro wz hSw; (try dsimp only at hSw); go_simp; try with_reducible rfl)
            try simp only [Act.put, List.setIfInBounds_toArray, List.set_cons_zero, List.set_cons_succ]
            refine' wpAnyH_take (i := 8) (oi := ⟨_, _, _, _, _, _⟩) (v := _) rfl (by kernel_rfl) (by kernel_rfl) (by kernel_rfl) (fun _ _ _ h => h) (Or.inl ⟨by rfl, ?hyC8⟩) hS ?restC8
            case hyC8 => (intro wz hSw; (try dsimp only at hSw); go_simp; try with_reducible rfl)
            try simp only [Act.put, List.setIfInBounds_toArray, List.set_cons_zero, List.set_cons_succ]
            refine wpAnyH_done (by kernel_rfl) ?_ _
            clear hS k1 k2
            go_simp
            go_wp2_with fail
            go_roundg (O.length - (i + 1))
            case measure => omega
            case rel => exact ⟨i + 1, by omega, by go_num, rfl, hbel.out.drew⟩
          · obtain rfl : i = O.length := by omega
            have hlt'' : decide ((O.length : Int) < (O.length : Int)) = false := by simp
            replace hbel := Lib.hid hbel
            go_wp2_with fail
            go_ret
            exact ⟨rfl, below_on bq.out hbel.out⟩
  · by_cases hla : a.length ≤ 40
    · have hl1 : decide (40 < a.length) = false := decide_eq_false (by omega)
      have hl3 : ¬ (40 : Int) < (a.length : Int) := by omega
      have hl2 : decide (40 < b'.length) = true := decide_eq_true (by omega)
      have hl4 : (40 : Int) < (b'.length : Int) := by omega
      clear hN0 hS0 hF0 hK0 hA0
      go_enter Tryz.func6, Tryz.ntmps6
      go_wp2_with fail
      refine (hawake.out _ hT.out).mono ?_
      rintro e w1 ⟨rfl, q1⟩
      go_wp2_with fail
      go_ret
      exact ⟨rfl, q1⟩
    · have hl1 : decide (40 < a.length) = true := decide_eq_true (by omega)
      have hl3 : (40 : Int) < (a.length : Int) := by omega
      clear hN0 hS0 hF0 hK0 hA0
      go_enter Tryz.func6, Tryz.ntmps6
      go_wp2_with fail
      refine (hawake.out _ hT.out).mono ?_
      rintro e w1 ⟨rfl, q1⟩
      go_wp2_with fail
      go_ret
      exact ⟨rfl, q1⟩
end Go.Proofs.YtiidjkhkcckmkaaGreatDoor
