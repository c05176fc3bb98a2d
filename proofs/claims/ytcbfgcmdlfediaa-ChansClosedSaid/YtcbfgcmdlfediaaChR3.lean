/- Layer 16: the document's Count, Take. -/
import Derived.Test.YtcbfgcmdlfediaaChR2
import Derived.Deep.RegionHeld3
import Derived.WalkKit
import Derived.OrdersHeld
namespace Go.Proofs.Ytcbfgcmdlfediaa
set_option linter.unusedSimpArgs false
set_option linter.unusedVariables false
open Go.RowKit Go.Lib
open Stg (Ch)
theorem cells3_set {w : World} {k : Nat} {a0 a1 a2 : Addr} {x0 x1 x2 : Value} (h : w.cell? a0 = some x0 ∧ w.cell? a1 = some x1 ∧ w.cell? a2 = some x2) (n0 : a0.block ≠ k) (n1 : a1.block ≠ k) (n2 : a2.block ≠ k) (u0 u1 : Value) :
    ((w.setCell ⟨k, 0, none⟩ u0).setCell ⟨k, 1, none⟩ u1).drew.cell? a0 = some x0 ∧ ((w.setCell ⟨k, 0, none⟩ u0).setCell ⟨k, 1, none⟩ u1).drew.cell? a1 = some x1 ∧ ((w.setCell ⟨k, 0, none⟩ u0).setCell ⟨k, 1, none⟩ u1).drew.cell? a2 = some x2 := by
  have key : ∀ (a : Addr) (x : Value), w.cell? a = some x → a.block ≠ k → ((w.setCell ⟨k, 0, none⟩ u0).setCell ⟨k, 1, none⟩ u1).cell? a = some x := fun a x hx hn => by
    rw [World.cell?_setCell_other, World.cell?_setCell_other]
    · exact hx
    · exact fun e => hn (congrArg Addr.block e).symm
    · exact fun e => hn (congrArg Addr.block e).symm
  exact ⟨key _ _ h.1 n0, key _ _ h.2.1 n1, key _ _ h.2.2 n2⟩
theorem flat_take16 (L : List (List Int)) (j : Nat) (h : j < L.length) : (L.take (j + 1)).flatten.length = (L.take j).flatten.length + (L[j]).length := by
  rw [List.take_succ_eq_append_getElem h, List.flatten_append, List.flatten_cons, List.flatten_nil, List.append_nil, List.length_append]
set_option maxHeartbeats 3200000 in
set_option maxRecDepth 100000 in
theorem rcount16 (J : Nat → Prop) (v : Value) (c : Ch) (w : World) (hf : c.Few) (hv : RCh J w v c) : Calls Try.prog 25 #[v] w fun e w' => e = .returned (.int .i64 (Stg.countC c : Nat)) ∧ Below w.heap.size w w' := by
  unfold Stg.countC
  
  have has := fun W (h : RCh (Up J w) W v c) => ras_box hf h
  replace hv := rch_up hv
  obtain ⟨p, cap, rfl, hr0⟩ := rch_form hv
  obtain ⟨d, hd⟩ : ∃ d, Stg.asC c = d := ⟨_, rfl⟩
  have hsn := Stg.asC_sane c
  rw [hd] at has hsn ⊢
  have hsn2 := (Stg.saneC_iff d).1 hsn
  
  have hbel0 := below_new w (.cells #[.slice p c.L.length cap, .bool c.closed] 24)
  have hcall := Lib.hid (has _ (rch_below hv hbel0))
  replace hbel0 := Lib.hid hbel0
  obtain ⟨cl, hcl⟩ : ∃ cl, c.closed = cl := ⟨_, rfl⟩
  obtain ⟨n, hn⟩ : ∃ n, c.L.length = n := ⟨_, rfl⟩
  rw [hcl, hn] at hbel0 hcall ⊢
  clear hcl hn hv has hr0 hd hsn
  obtain ⟨L, dc⟩ := d
  dsimp only at hcall hsn2 ⊢
  obtain ⟨hs1, hs2⟩ := hsn2
  have hft := fun j h => flat_take16 L j h
  replace hs2 := Lib.hid hs2
  replace hft := Lib.hid hft
  go_enter Try.func25, Try.ntmps25
  go_wp2_with fail
  refine hcall.out.mono ?_
  rintro e w1 ⟨pd, cd, rfl, hr1, hb1⟩
  replace hb1 := Lib.hid (below_on hbel0.out hb1)
  have hbx := blk_new w1 #[.slice pd L.length cd, .bool dc] 24
  have hc0 := blk_cell hbx 0 _ rfl
  have hr2 := Lib.hid (rro_but hr1 (only_below (below_new w1 (.cells #[.slice pd L.length cd, .bool dc] 24))))
  have hbel := Lib.hid (hb1.out.alloc hb1.out.size (.cells #[.slice pd L.length cd, .bool dc] 24))
  obtain ⟨W, hW⟩ : ∃ W, w1.alloc (.cells #[.slice pd L.length cd, .bool dc] 24) = W := ⟨_, rfl⟩
  clear hbel0 hcall hbx hr1
  replace hc0 := Lib.hid hc0
  rw [hW] at hr2 hc0 hbel
  replace hW := Lib.hid hW
  go_wp2_with fail
  rw [hW.out]
  go_loopg [4, 5] L.length (fun g vn vi wr => ∃ k : Nat, k ≤ L.length ∧ vi = .int .i64 k ∧ g = L.length - k ∧ wr = W ∧ vn = .int .i64 ((L.take k).flatten.length : Nat) ∧ (L.take k).flatten.length ≤ 8 * k)
  case atStart => exact ⟨0, Nat.zero_le _, rfl, rfl, rfl, rfl, Nat.le_refl _⟩
  case round =>
    obtain ⟨k, hk, rfl, rfl, rfl, rfl, hle⟩ := hrel
    replace hc0 := hc0.out
    by_cases hlt : k < L.length
    · have hlt' : (k : Int) < (L.length : Int) := by omega
      obtain ⟨b, off, rfl, hb, hJ, hcell⟩ := rro_at hr2.out (by omega)
      obtain ⟨u, hu, hru⟩ := hcell k hlt
      obtain ⟨pk, ck, rfl⟩ := ri_form hru.1
      have hlk := hs2.out L[k] (List.getElem_mem hlt)
      have hnx := hft.out k hlt
      obtain ⟨m, hm⟩ : ∃ m, L[k].length = m := ⟨_, rfl⟩
      obtain ⟨t, ht⟩ : ∃ t, (L.take k).flatten.length = t := ⟨_, rfl⟩
      obtain ⟨t2, ht2⟩ : ∃ t2, (L.take (k + 1)).flatten.length = t2 := ⟨_, rfl⟩
      rw [hm] at hu hlk hnx
      rw [ht] at hle hnx ⊢
      rw [ht2] at hnx
      replace ht2 := Lib.hid ht2
      replace hnx := Lib.hid hnx
      clear hcell hru hm ht
      obtain ⟨hl1, hl2⟩ := hlk
      have hI : (0 : Int) ≤ (t : Int) + (m : Int) := by omega
      have hI2 : (t : Int) + (m : Int) ≤ 100 := by omega
      go_wp2_with fail
      go_roundg (L.length - (k + 1))
      case measure => omega
      case rel => exact ⟨k + 1, by omega, by go_num, rfl, rfl, by rw [ht2.out, hnx.out]; go_num, by rw [ht2.out, hnx.out]; omega⟩
    · obtain rfl : k = L.length := by omega
      have hlt' : decide ((L.length : Int) < (L.length : Int)) = false := by simp
      rw [List.take_length] at hle ⊢
      obtain ⟨t, ht⟩ : ∃ t, L.flatten.length = t := ⟨_, rfl⟩
      rw [ht] at hle ⊢
      go_wp2_with fail
      go_ret
      exact ⟨by rw [ht]; rfl, hbel.out⟩
set_option maxHeartbeats 3200000 in
set_option maxRecDepth 100000 in
theorem rtake16 (J : Nat → Prop) (v : Value) (c : Ch) (w : World) (hf : c.Few) (hv : RCh J w v c) : Calls Try.prog 15 #[v] w (ToldCLB J (Stg.takeC c) w) := by
  unfold Stg.takeC
  
  have has := fun W (h : RCh (Up J w) W v c) => ras_box hf h
  replace hv := rch_up hv
  obtain ⟨p, cap, rfl, hr0⟩ := rch_form hv
  obtain ⟨d, hd⟩ : ∃ d, Stg.asC c = d := ⟨_, rfl⟩
  have hsn := Stg.asC_sane c
  rw [hd] at has hsn ⊢
  have hsn2 := (Stg.saneC_iff d).1 hsn
  
  have hbel0 : Below w.heap.size w ((w.alloc (.cells #[.slice p c.L.length cap, .bool c.closed] 24)).alloc (.cells #[.slice none 0 0, .bool false] 24)) := (below_new w _).alloc (by simp) _
  have hres := blk_new (w.alloc (.cells #[.slice p c.L.length cap, .bool c.closed] 24)) #[.slice none 0 0, .bool false] 24
  rw [show (w.alloc (.cells #[.slice p c.L.length cap, .bool c.closed] 24)).heap.size = w.heap.size + 1 by simp] at hres
  have hcall := Lib.hid (has _ (rch_below hv hbel0))
  replace hbel0 := Lib.hid hbel0
  replace hres := Lib.hid hres
  obtain ⟨cl, hcl⟩ : ∃ cl, c.closed = cl := ⟨_, rfl⟩
  obtain ⟨n, hn⟩ : ∃ n, c.L.length = n := ⟨_, rfl⟩
  rw [hcl, hn] at hbel0 hcall hres ⊢
  clear hcl hn hv has hr0 hd hsn
  obtain ⟨L, dc⟩ := d
  dsimp only at hcall hsn2 ⊢
  obtain ⟨hs1, hs2⟩ := hsn2
  replace hs2 := Lib.hid hs2
  go_enter Try.func15, Try.ntmps15
  go_wp2_with fail
  
  refine hcall.out.mono ?_
  rintro e w1 ⟨pd, cd, rfl, hr1, hb1⟩
  have hrs0 := blk_below hres.out hb1
  have hlt0 := blk_lt hrs0
  have hbx := blk_new w1 #[.slice pd L.length cd, .bool dc] 24
  have hrs1 := blk_alloc hrs0 (.cells #[.slice pd L.length cd, .bool dc] 24)
  have hr2 := Lib.hid (rro_but hr1 (only_below (below_new w1 (.cells #[.slice pd L.length cd, .bool dc] 24))))
  replace hb1 := Lib.hid (below_on hbel0.out hb1)
  have hbel := Lib.hid (hb1.out.alloc hb1.out.size (.cells #[.slice pd L.length cd, .bool dc] 24))
  obtain ⟨W, hW⟩ : ∃ W, w1.alloc (.cells #[.slice pd L.length cd, .bool dc] 24) = W := ⟨_, rfl⟩
  rw [hW] at hr2 hbx hrs1 hbel
  replace hW := Lib.hid hW
  clear hbel0 hcall hres hrs0 hr1
  have f0 := blk_thaw hrs1 0
  have f1 := blk_thaw hrs1 1
  have e0 := blk_cell hrs1 0 (.slice none 0 0) rfl
  have e1 := blk_cell hrs1 1 (.bool false) rfl
  have c0 := blk_cell hbx 0 (.slice pd L.length cd) rfl
  have c1 := blk_cell hbx 1 (.bool dc) rfl
  replace hrs1 := Lib.hid hrs1
  replace hbx := Lib.hid hbx
  have hB := Lib.hid (fun a c b => (hbel.out.setCell (p := ⟨w.heap.size + 1, 0, none⟩) (Nat.le_succ _) (.slice a c b)).setCell (p := ⟨w.heap.size + 1, 1, none⟩) (Nat.le_succ _) (.bool dc))
  have hq := Lib.hid (fun a c b => blk_setAt16 (blk_setAt16 hrs1.out 0 (.slice a c b)) 1 (.bool dc))
  go_upto_region 2 with (fail)
  rw [hW.out]
  rcases L with _ | ⟨x, t⟩
  · go_wp2_with fail
    have q := hq.out pd 0 cd
    have q0 := blk_cell q 0 (.slice pd 0 cd) rfl
    have q1 := blk_cell q 1 (.bool dc) rfl
    refine bodyPost_ret (v := .tuple #[.agg #[.slice pd 0 cd, .bool dc], .slice none 0 0, .bool false]) ?_ rfl ⟨_, _, rfl, ⟨_, rfl, rro_none _ _ _ _ (rro_cap hr2.out).2.2⟩, ⟨ri_nil _, fun h => absurd rfl h⟩, hB.out pd 0 cd⟩
    simp [results, Try.results15, go_sem, q0, q1]
  · obtain ⟨b, off, rfl, hb, hJ, hcell⟩ := rro_at hr2.out (by simp)
    obtain ⟨u, hu, hru⟩ := hcell 0 (by simp)
    obtain ⟨p0, k0, rfl⟩ := ri_form hru.1
    replace hru : RIo (Up J w) W (.slice p0 x.length k0) x := hru
    replace hu : W.cell? ⟨b, off, none⟩ = some (.slice p0 x.length k0) := hu
    obtain ⟨hcap1, hcap2, _⟩ := rro_cap hr2.out
    have hne : b ≠ w.heap.size + 1 := fun e => hJ (.inr (by omega))
    have hne1 : w1.heap.size ≠ w.heap.size + 1 := by omega
    have hfrom := rro_from hr2.out 1 (by simp) (by simp)
    replace hfrom : RRo (Up J w) W (.slice (some ⟨b, off + 1, none⟩) (t.length + 1 - 1) (cd - 1)) t := hfrom
    rw [show t.length + 1 - 1 = t.length from rfl] at hfrom
    replace hfrom := Lib.hid hfrom
    have n1 : t.length + 1 ≤ cd := hcap2
    clear hcell
    replace hru := Lib.hid hru
    go_upto_region 4 with (fail)
    rcases Nat.eq_or_lt_of_le (Nat.le_trans (Nat.le_add_left 1 t.length) n1) with hcd | hcd
    · obtain rfl : cd = 1 := hcd.symm
      obtain rfl : t = [] := List.eq_nil_of_length_eq_zero (by omega)
      replace c0 : W.cell? ⟨w1.heap.size, 0, none⟩ = some (.slice (some ⟨b, off, none⟩) 1 1) := c0
      have HS := Lib.hid (fun u0 u1 => cells3_set ⟨c0, c1, hu⟩ hne1 hne1 hne u0 u1)
      go_region_held3 (fun w' => w'.cell? ⟨w1.heap.size, 0, none⟩ = some (.slice (some ⟨b, off, none⟩) 1 1) ∧ w'.cell? ⟨w1.heap.size, 1, none⟩ = some (.bool dc) ∧ w'.cell? ⟨b, off, none⟩ = some (.slice p0 x.length k0)) (first | with_reducible exact HS.out _ _ | go_keep) (fail)
      all_goals
        go_wp2_with fail
        have q := hq.out (some ⟨b, off, none⟩) 0 0
        have q0 := blk_cell q 0 (.slice (some ⟨b, off, none⟩) 0 0) rfl
        have q1 := blk_cell q 1 (.bool dc) rfl
        have hO : OnlyIn (Up J w) W ((W.setCell ⟨w.heap.size + 1, 0, none⟩ (.slice (some ⟨b, off, none⟩) 0 0)).setCell ⟨w.heap.size + 1, 1, none⟩ (.bool dc)) := only_trans (only_set _ ⟨w.heap.size + 1, 0, none⟩ _ (.inr (Nat.le_succ _))) (only_set _ ⟨w.heap.size + 1, 1, none⟩ _ (.inr (Nat.le_succ _)))
        refine bodyPost_ret (v := .tuple #[.agg #[.slice (some ⟨b, off, none⟩) 0 0, .bool dc], .slice p0 x.length k0, .bool true]) ?_ rfl ⟨_, _, rfl, ⟨_, rfl, rro_none _ _ _ _ (fun h => by cases h)⟩, rio_down (w0 := w) (show RIo (Up J w) ((W.setCell ⟨w.heap.size + 1, 0, none⟩ (.slice (some ⟨b, off, none⟩) 0 0)).setCell ⟨w.heap.size + 1, 1, none⟩ (.bool dc)) _ _ from rio_but hru.out hO), below_on (hB.out (some ⟨b, off, none⟩) 0 0) (Below.refl _ _).drew⟩
        simp [results, Try.results15, go_sem, q0, q1]
    · replace c0 : W.cell? ⟨w1.heap.size, 0, none⟩ = some (.slice (some ⟨b, off, none⟩) (t.length + 1) cd) := c0
      have HS := Lib.hid (fun u0 u1 => cells3_set ⟨c0, c1, hu⟩ hne1 hne1 hne u0 u1)
      have n2 : (1 : Int) < (cd : Int) := by omega
      have n3 : (1 : Int) ≤ (t.length : Int) + 1 := by omega
      have n4 : (t.length : Int) + 1 ≤ (cd : Int) := by omega
      go_region_held3 (fun w' => w'.cell? ⟨w1.heap.size, 0, none⟩ = some (.slice (some ⟨b, off, none⟩) (t.length + 1) cd) ∧ w'.cell? ⟨w1.heap.size, 1, none⟩ = some (.bool dc) ∧ w'.cell? ⟨b, off, none⟩ = some (.slice p0 x.length k0)) (first | with_reducible exact HS.out _ _ | go_keep) (fail)
      all_goals
        go_wp2_with fail
        have q := hq.out (some ⟨b, off + 1, none⟩) t.length (cd - 1)
        have q0 := blk_cell q 0 (.slice (some ⟨b, off + 1, none⟩) t.length (cd - 1)) rfl
        have q1 := blk_cell q 1 (.bool dc) rfl
        have hO : OnlyIn (Up J w) W ((W.setCell ⟨w.heap.size + 1, 0, none⟩ (.slice (some ⟨b, off + 1, none⟩) t.length (cd - 1))).setCell ⟨w.heap.size + 1, 1, none⟩ (.bool dc)) := only_trans (only_set _ ⟨w.heap.size + 1, 0, none⟩ _ (.inr (Nat.le_succ _))) (only_set _ ⟨w.heap.size + 1, 1, none⟩ _ (.inr (Nat.le_succ _)))
        refine bodyPost_ret (v := .tuple #[.agg #[.slice (some ⟨b, off + 1, none⟩) t.length (cd - 1), .bool dc], .slice p0 x.length k0, .bool true]) ?_ rfl ⟨_, _, rfl, ⟨_, rfl, rro_down (w0 := w) (show RRo (Up J w) ((W.setCell ⟨w.heap.size + 1, 0, none⟩ (.slice (some ⟨b, off + 1, none⟩) t.length (cd - 1))).setCell ⟨w.heap.size + 1, 1, none⟩ (.bool dc)) _ _ from rro_but hfrom.out hO)⟩, rio_down (w0 := w) (show RIo (Up J w) ((W.setCell ⟨w.heap.size + 1, 0, none⟩ (.slice (some ⟨b, off + 1, none⟩) t.length (cd - 1))).setCell ⟨w.heap.size + 1, 1, none⟩ (.bool dc)) _ _ from rio_but hru.out hO), below_on (hB.out (some ⟨b, off + 1, none⟩) t.length (cd - 1)) (Below.refl _ _).drew⟩
        simp [results, Try.results15, go_sem, q0, q1]
end Go.Proofs.Ytcbfgcmdlfediaa
