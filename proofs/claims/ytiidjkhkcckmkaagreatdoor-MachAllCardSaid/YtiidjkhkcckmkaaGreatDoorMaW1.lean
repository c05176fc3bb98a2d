/- Layer 15: the walk of MachAll. -/
import Derived.Test.YtiidjkhkcckmkaaGreatDoorMaW0
import Derived.Test.YtiidjkhkcckmkaaGreatDoorFwW0
import Derived.Test.YtiidjkhkcckmkaaGreatDoorBasP
import Derived.Deep.RegionHeld
import Derived.Deep.LoopGhost
import Derived.Deep.DeepCutAuto
import Derived.OrdersHeld
namespace Go.Proofs.YtiidjkhkcckmkaaGreatDoor
set_option linter.unusedSimpArgs false
set_option linter.unusedVariables false
open Go.RowKit Go.Lib
open Mch (MS)
namespace Mch
/-- what the first k machines make of a text -/
def lvl (b : List UInt8) : Nat → List Int
  | 0 => itemsOf b
  | k + 1 => allM k (lvl b k)
theorem lvl1 (b : List UInt8) : lvl b 1 = Dec.allL b := by
  show allM 0 (itemsOf b) = _
  rw [all_dec]
  congr 1
  unfold itemsOf
  rw [List.map_map]
  conv => rhs; rw [← List.map_id b]
  exact List.map_congr_left fun c _ => byte_item c
theorem lvl2 (b : List UInt8) : lvl b 2 = Nfk.nfkcI (Dec.allL b) := by
  show allM 1 (lvl b 1) = _
  rw [lvl1, all_norm]
theorem lvl3 (b : List UInt8) : lvl b 3 = Flw.valuesI b := by
  show allM 2 (lvl b 2) = _
  rw [lvl2, all_fold]
  rfl
theorem lvl4 (b : List UInt8) : lvl b 4 = cutsOf (Flw.clustersI b) := by
  show allM 3 (lvl b 3) = _
  rw [lvl3, all_seg]
  rfl
theorem lvl5 (b : List UInt8) : lvl b 5 = itemsOf (Flw.frameI b) := all_five b
theorem cuts_len (L : List (List Int)) : (cutsOf L).length = L.flatten.length + L.length := by
  induction L with
  | nil => rfl
  | cons c t ih =>
    have e : cutsOf (c :: t) = (c ++ [-1]) ++ cutsOf t := rfl
    rw [e]
    simp only [List.length_append, List.flatten_cons, List.length_cons, List.length_nil, ih]
    omega
theorem lvl_len {b : List UInt8} (h : b.length ≤ 200) {k : Nat} (hk : k ≤ 4) : (lvl b k).length ≤ 30000 := by
  obtain ⟨h1, h2, h3, h4⟩ := Flw.values_few h
  have : k = 0 ∨ k = 1 ∨ k = 2 ∨ k = 3 ∨ k = 4 := by omega
  rcases this with rfl | rfl | rfl | rfl | rfl
  · show (itemsOf b).length ≤ _
    unfold itemsOf
    rw [List.length_map]
    omega
  · rw [lvl1]; omega
  · rw [lvl2]; omega
  · rw [lvl3]; omega
  · rw [lvl4, cuts_len, Flw.clusters_flat]
    have h5 : (Flw.clustersI b).length ≤ (Flw.clustersI b).flatten.length := by
      have : ∀ L : List (List Int), (∀ x ∈ L, 1 ≤ x.length) → L.length ≤ L.flatten.length := by
        intro L hL
        induction L with
        | nil => simp
        | cons x t ih =>
          have g1 := hL x (List.mem_cons_self ..)
          have g2 := ih fun y hy => hL y (List.mem_cons_of_mem _ hy)
          simp only [List.length_cons, List.flatten_cons, List.length_append]
          omega
      exact this _ fun c hc => (Flw.clusters_len b c hc).1
    rw [Flw.clusters_flat] at h5
    omega
theorem good_i64 {l : List Int} (h : Flw.Good l) : WfI l := fun x hx => by
  have := (Dec.goodB_iff x).1 (h x hx)
  omega
theorem lvl_wf (b : List UInt8) {k : Nat} (hk : k ≤ 4) : WfI (lvl b k) := by
  have : k = 0 ∨ k = 1 ∨ k = 2 ∨ k = 3 ∨ k = 4 := by omega
  rcases this with rfl | rfl | rfl | rfl | rfl
  · intro x hx
    obtain ⟨c, _, rfl⟩ := List.mem_map.1 (show x ∈ itemsOf b from hx)
    have := c.toNat_lt
    omega
  · rw [lvl1]; exact good_i64 (Flw.all_good b)
  · rw [lvl2]; exact good_i64 (Flw.nfkc_good (Flw.all_good b))
  · rw [lvl3]; exact good_i64 (Flw.values_good b)
  · rw [lvl4]
    intro x hx
    obtain ⟨c, hc, hx⟩ := List.mem_flatMap.1 (show x ∈ (Flw.clustersI b).flatMap fun c => c ++ [-1] from hx)
    rcases List.mem_append.1 hx with h | h
    · have := (Dec.goodB_iff x).1 (Flw.clusters_good b c hc x h)
      omega
    · simp at h
      omega
theorem frame_items {b : List UInt8} (h : b.length ≤ 200) : (Flw.frameI b).length ≤ 10000000 := by
  have := Flw.frame_few (Flw.small_of h).b4
  omega
end Mch
set_option maxHeartbeats 6400000 in
set_option maxRecDepth 100000 in
theorem machAll_walk (hN0 : NewC15) (hS0 : SaneC15) (hF0 : FeedC15) (hK0 : CostC15) (hA0 : AllC15) (hW0 : FC14) (vb : Value) (b : List UInt8) (w : World) (hT : Tabs w) (hvb : RBytes w vb b) :
    Calls Tryz.prog 4 #[vb] w fun e w' => e = .returned (.bool true) ∧ Below w.heap.size w w' := by
  obtain ⟨pb, cb, rfl⟩ := bytes_form hvb
  have hawake := Lib.hid (fun W h => awake15 hN0 hS0 hF0 hK0 hA0 W h)
  replace hT := Lib.hid hT
  have hrb := Lib.hid hvb
  clear hvb
  by_cases hl : b.length ≤ 200
  · have hl' : decide (200 < b.length) = false := decide_eq_false (by omega)
    have hl2 : ¬ (200 : Int) < (b.length : Int) := by omega
    obtain ⟨i0, hi, hz0, hz1, hz2⟩ := info_parts info_i
    have hs := Flw.small_of hl
    have hF := fun W t h => hW0 (.slice pb b.length cb) b W t hs h
    have hall := fun (k : Nat) (hk : k ≤ 4) V (W : World) t h => hA0 (k : Int) V (Mch.lvl b k) W t (Mch.lvl_len hl hk) h (Mch.lvl_wf b hk) (by unfold I64; omega)
    have hnext : ∀ k : Nat, Mch.allM (k : Int) (Mch.lvl b k) = Mch.lvl b (k + 1) := fun _ => rfl
    have h0 : Mch.lvl b 0 = Mch.itemsOf b := rfl
    have h5 := Mch.lvl5 b
    have hfl := Mch.frame_items hl
    obtain ⟨L, hL⟩ : ∃ L, Mch.lvl b = L := ⟨_, rfl⟩
    rw [hL] at hall hnext h0 h5
    obtain ⟨F, hFF⟩ : ∃ F, Flw.frameI b = F := ⟨_, rfl⟩
    rw [hFF] at hF h5 hfl
    unfold ToldB at hF
    replace hall := Lib.hid hall
    replace hnext := Lib.hid hnext
    replace h0 := Lib.hid h0
    replace h5 := Lib.hid h5
    replace hF := Lib.hid hF
    clear hL hFF hN0 hS0 hF0 hK0 hA0 hW0 hs
    go_enter Tryz.func4, Tryz.ntmps4
    go_wp2_with fail
    refine (hawake.out _ hT.out).mono ?_
    rintro e w1 ⟨rfl, q1⟩
    replace hrb := Lib.hid (bytes_below hrb.out q1)
    replace hT := Lib.hid (tabs_next hT.out q1)
    have bq := Lib.hid q1
    clear q1
    go_wp2_with fail
    go_loopg [4, 5] b.length (fun g vo vi wr => ∃ i : Nat, i ≤ b.length ∧ vi = .int .i64 i ∧ g = b.length - i ∧ OwnI w1.heap.size vo (Mch.itemsOf (b.take i)) wr ∧ Below w1.heap.size w1 wr)
    case atStart => exact ⟨0, Nat.zero_le _, rfl, rfl, ownI_nil _ _, Below.refl _ _⟩
    case round =>
      obtain ⟨i, hile, rfl, rfl, hown, hbel⟩ := hrel
      by_cases hlt : i < b.length
      · have hlt' : (i : Int) < (b.length : Int) := by omega
        obtain ⟨b1, o1, rfl, hb1, hc1⟩ := bytes_at hrb.out (by omega)
        have k1 := (hbel.cell (p := ⟨b1, o1 + i, none⟩) hb1).trans (hc1 i hlt)
        have hn : Mch.itemsOf (b.take (i + 1)) = Mch.itemsOf (b.take i) ++ [(b[i].toNat : Int)] := by
          unfold Mch.itemsOf
          rw [List.take_succ_eq_append_getElem hlt, List.map_append]
          rfl
        have hol : (Mch.itemsOf (b.take i)).length ≤ 200 := by unfold Mch.itemsOf; rw [List.length_map, List.length_take]; omega
        obtain ⟨c, hc⟩ : ∃ c, b[i] = c := ⟨_, rfl⟩
        rw [hc] at k1 hn
        have hc256 : (c.toNat : Int) < 256 := by have := c.toNat_lt; omega
        obtain ⟨O, hO⟩ : ∃ O, Mch.itemsOf (b.take i) = O := ⟨_, rfl⟩
        rw [hO] at hn hown hol
        obtain ⟨x, hx⟩ : ∃ x : Nat, c.toNat = x := ⟨_, rfl⟩
        rw [hx] at k1 hn hc256
        have o2 := Lib.hid (ownI_alloc hown (.cells #[.int .i64 x] 3))
        have b2 := Lib.hid (hbel.alloc hbel.size (.cells #[.int .i64 x] 3))
        have s2 := Lib.hid (ri_src (ri_of_own (ownI_lit w1.heap.size wr [(x : Int)] #[.int .i64 x] wr.heap.size 1 rfl hbel.size rfl rfl (by unfold maxLen; omega))))
        replace hn := Lib.hid hn
        clear hc1 hc hx hown hbel hO
        go_wp2_with (at_builtin; refine wpList_append_src rfl _ _ 24 rfl w1.heap.size 3 i0 (.int .i64 0) 8 Tryz.underlying24 hi hz0 hz1 hz2 rfl _ _ _ rfl o2.out _ _ rfl s2.out (oneCellI _) (by simp only [List.length_map, List.length_append, List.length_take, List.length_drop, List.length_cons, List.length_nil, List.length_singleton]; unfold maxLen; omega) (by simp only [List.length_map, List.length_append, List.length_take, List.length_drop, List.length_cons, List.length_nil, List.length_singleton]; omega) b2.out.size ?_; intro v5 w5 ho5 hg5; have o5 := Lib.hid (ownI_of_row (l := O ++ [(x : Int)]) ho5 (by (try simp); try omega) (by (try simp); try omega)); have b5 := Lib.hid (below_row b2.out hg5 b2.out.size o2.out (Nat.le_refl _)); clear ho5 hg5)
        go_roundg (b.length - (i + 1))
        case measure => omega
        case rel => exact ⟨i + 1, by omega, by go_num, rfl, by rw [hn.out]; exact o5.out, b5.out⟩
      · obtain rfl : i = b.length := by omega
        have hlt' : decide ((b.length : Int) < (b.length : Int)) = false := by simp
        rw [List.take_length, ← h0.out] at hown
        have rl := Lib.hid (ri_of_own hown)
        replace hrb := Lib.hid (bytes_below hrb.out hbel)
        replace hT := Lib.hid (tabs_next hT.out hbel)
        replace bq := Lib.hid (below_on bq.out hbel)
        have hbase := Lib.hid (Below.refl wr.heap.size wr)
        clear hown hbel
        generalize hwq : wr = wq at *
        clear hwq
        go_wp2_with fail
        go_loopg [4, 6] 5 (fun g vo vi wr => ∃ k : Nat, k ≤ 5 ∧ vi = .int .i64 k ∧ g = 5 - k ∧ RI wr vo (L k) ∧ Below wq.heap.size wq wr)
        case atStart => exact ⟨0, Nat.zero_le _, rfl, rfl, rl.out, Below.refl _ _⟩
        case round =>
          obtain ⟨k, hk5, rfl, rfl, hvo, hbel⟩ := hrel
          by_cases hlt : k < 5
          · have hlt' : (k : Int) < 5 := by omega
            obtain ⟨po, co, rfl⟩ := ri_form hvo
            have hk := hall.out k (by omega) _ wr (tabs_next hT.out hbel) hvo
            rw [hnext.out k] at hk
            unfold Told at hk
            replace hk := Lib.hid hk
            replace hbel := Lib.hid hbel
            clear hvo
            go_wp2_with fail
            refine hk.out.mono ?_
            rintro e w2 ⟨v2, rfl, r2, q2⟩
            have b2 := Lib.hid (below_on hbel.out q2)
            obtain ⟨p2, c2, rfl⟩ := ri_form r2
            replace r2 := Lib.hid r2
            clear q2
            go_wp2_with fail
            go_roundg (5 - (k + 1))
            case measure => omega
            case rel => exact ⟨k + 1, by omega, by go_num, rfl, r2.out, b2.out⟩
          · obtain rfl : k = 5 := by omega
            have hlt' : decide (((5 : Nat) : Int) < 5) = false := by simp
            rw [h5.out] at hvo
            obtain ⟨po, co, rfl⟩ := ri_form hvo
            have hil : (Mch.itemsOf F).length = F.length := by unfold Mch.itemsOf; rw [List.length_map]
            rw [hil] at hvo ⊢
            replace hrb := Lib.hid (bytes_below hrb.out hbel)
            replace hT := Lib.hid (tabs_next hT.out hbel)
            replace bq := Lib.hid (below_on bq.out hbel)
            replace hvo := Lib.hid hvo
            replace hil := Lib.hid hil
            clear hbel rl
            generalize hwz : wr = wz at *
            clear hwz
            go_wp2_with fail
            go_loopg [7, 8] F.length (fun g vo vi wr => ∃ i : Nat, i ≤ F.length ∧ vi = .int .i64 i ∧ g = F.length - i ∧ OwnB wz.heap.size vo (F.take i) wr ∧ Below wz.heap.size wz wr)
            case atStart => exact ⟨0, Nat.zero_le _, rfl, rfl, ownB_nil _ _, Below.refl _ _⟩
            case round =>
              obtain ⟨i, hile, rfl, rfl, hown, hbel⟩ := hrel
              by_cases hlt : i < F.length
              · have hlt' : (i : Int) < (F.length : Int) := by omega
                obtain ⟨b1, o1, rfl, hb1, hc1⟩ := ri_at hvo.out (by rw [hil.out]; omega)
                have k1 := (hbel.cell (p := ⟨b1, o1 + i, none⟩) hb1).trans (hc1 i (by rw [hil.out]; omega))
                have hit : (Mch.itemsOf F)[i]'(by rw [hil.out]; omega) = (F[i].toNat : Int) := by unfold Mch.itemsOf; simp
                rw [hit] at k1
                have hn : F.take (i + 1) = F.take i ++ [F[i]] := List.take_succ_eq_append_getElem hlt
                obtain ⟨c, hc⟩ : ∃ c, F[i] = c := ⟨_, rfl⟩
                rw [hc] at k1 hn
                have hc256 : (c.toNat : Int) < 256 := by have := c.toNat_lt; omega
                have hc0 : 0 ≤ (c.toNat : Int) := by omega
                have t0 : decide ((c.toNat : Int) < 0) = false := decide_eq_false (by omega)
                have t1 : decide ((255 : Int) < (c.toNat : Int)) = false := decide_eq_false (by omega)
                have hwr : IntKind.u8.wrap (c.toNat : Int) = (c.toNat : Int) := by rw [IntKind.wrap_u8]; omega
                have hol : (F.take i).length ≤ 10000000 := by rw [List.length_take]; omega
                obtain ⟨O, hO⟩ : ∃ O, F.take i = O := ⟨_, rfl⟩
                rw [hO] at hn hown hol
                have o2 := Lib.hid (ownB_alloc hown (.cells #[.int .u8 (c.toNat : Int)] 5))
                have b2 := Lib.hid (hbel.alloc hbel.size (.cells #[.int .u8 (c.toNat : Int)] 5))
                have s2 := Lib.hid (bytes_lit wr [c] #[.int .u8 (c.toNat : Int)] 1 (0, 0) rfl rfl)
                replace hn := Lib.hid hn
                clear hc1 hc hown hbel hO hit hz0 hz1 hz2 hi
                clear i0
                obtain ⟨i0, hi, hz0, hz1, hz2⟩ := info_parts info_byte
                go_wp2_with (at_builtin; refine wpList_append_src rfl _ _ 59 rfl wz.heap.size 5 i0 (.int .u8 0) 1 Tryz.underlying59 hi hz0 hz1 hz2 rfl _ _ _ rfl o2.out _ _ rfl (bytes_src s2.out) (bytes_oneCell _) (by simp only [List.length_append, List.length_take, List.length_drop, List.length_cons, List.length_nil, List.length_singleton, Lib.byteCells_length]; unfold maxLen; omega) (by simp only [List.length_append, List.length_take, List.length_drop, List.length_cons, List.length_nil, List.length_singleton, Lib.byteCells_length]; omega) b2.out.size ?_; intro v5 w5 ho5 hg5; have o5 := Lib.hid (ownB_of_row (l := O ++ [c]) ho5 (by (try simp [Lib.byteCells]); try omega) (by simp [Lib.byteCells])); have b5 := Lib.hid (below_row b2.out hg5 b2.out.size o2.out (Nat.le_refl _)); clear ho5 hg5)
                go_roundg (F.length - (i + 1))
                case measure => omega
                case rel => exact ⟨i + 1, by omega, by go_num, rfl, by rw [hn.out]; exact o5.out, b5.out⟩
              · obtain rfl : i = F.length := by omega
                have hlt' : decide ((F.length : Int) < (F.length : Int)) = false := by simp
                rw [List.take_length] at hown
                have f0 := bytes_of_own hown
                obtain ⟨p7, c7, rfl⟩ := bytes_form f0
                replace hrb := Lib.hid (bytes_below hrb.out hbel)
                replace hT := Lib.hid (tabs_next hT.out hbel)
                replace bq := Lib.hid (below_on bq.out hbel)
                replace f0 := Lib.hid f0
                clear hown hbel hvo
                go_upto_region 20 with (fail)
                replace hrb := Lib.hid (show RBytes wr.drew _ _ from hrb.out)
                replace f0 := Lib.hid (show RBytes wr.drew _ _ from f0.out)
                replace hT := Lib.hid (show Tabs wr.drew from tabs_next hT.out (Below.refl _ _).drew)
                replace bq := Lib.hid bq.out.drew
                refine wp_region_held_drew (S := fun w' => (convert 59 9 (.slice p7 F.length c7)).run Tryz.prog w' = .ok (.string ⟨F.toArray⟩) w') (by kernel_rfl) (run_toStr (.slice p7 F.length c7) F wr.drew f0.out) (fun hS => ?_)
                refine' wpAnyH_take (i := 0) (oi := ⟨_, _, _, _, _, _⟩) (v := _) rfl (by kernel_rfl) (by kernel_rfl) (by kernel_rfl) (fun _ _ _ h => h) (Or.inl ⟨by rfl, ?hy0⟩) hS ?rest0
                case hy0 => (intro wz hSw; (try dsimp only at hSw); go_simp; try with_reducible rfl)
                try simp only [Act.put, List.setIfInBounds_toArray, List.set_cons_zero, List.set_cons_succ]
                refine' wpAnyH_take (i := 1) (oi := ⟨_, _, _, _, _, _⟩) (v := _) rfl (by kernel_rfl) (by kernel_rfl) (by kernel_rfl) (fun _ _ _ h => h) (Or.inl ⟨by rfl, ?hy1⟩) hS ?rest1
                case hy1 => (intro wz hSw; (try dsimp only at hSw); go_simp; try with_reducible rfl)
                try simp only [Act.put, List.setIfInBounds_toArray, List.set_cons_zero, List.set_cons_succ]
                refine' wpAnyH_take (i := 2) (oi := ⟨_, _, _, _, _, _⟩) (v := _) rfl (by kernel_rfl) (by kernel_rfl) (by kernel_rfl) (fun _ _ _ h => h) (Or.inl ⟨by rfl, ?hy2⟩) hS ?rest2
                case hy2 => (intro wz hSw; (try dsimp only at hSw); go_simp; try with_reducible rfl)
                try simp only [Act.put, List.setIfInBounds_toArray, List.set_cons_zero, List.set_cons_succ]
                refine' wpAnyH_take (i := 3) (oi := ⟨_, _, _, _, _, _⟩) (v := _) rfl (by kernel_rfl) (by kernel_rfl) (by kernel_rfl) (fun _ _ _ h => h) (Or.inl ⟨by rfl, ?hy3⟩) hS ?rest3
                case hy3 => (intro wz hSw; (try dsimp only at hSw); go_simp; try with_reducible rfl)
                try simp only [Act.put, List.setIfInBounds_toArray, List.set_cons_zero, List.set_cons_succ]
                refine' wpAnyH_take (i := 4) (oi := ⟨_, _, _, _, _, _⟩) (v := _) rfl (by kernel_rfl) (by kernel_rfl) (by kernel_rfl) (fun _ _ _ h => h) (Or.inl ⟨by rfl, ?hy4⟩) hS ?rest4
                case hy4 => (intro wz hSw; (try dsimp only at hSw); go_simp; try with_reducible rfl)
                try simp only [Act.put, List.setIfInBounds_toArray, List.set_cons_zero, List.set_cons_succ]
                refine wpAnyH_ready (rs := [5]) (by kernel_rfl) (by simp) (AllReadyH.cons rfl (fun K hK => ?_) AllReadyH.nil)
                go_simp
                go_at_call 26
                refine (hF.out _ hT.out hrb.out).mono ?_
                rintro e w_5 ⟨v_f1, rfl, f1, q_5⟩
                replace f0 := Lib.hid (bytes_below f0.out q_5)
                replace hrb := Lib.hid (bytes_below hrb.out q_5)
                replace hT := Lib.hid (tabs_next hT.out q_5)
                replace bq := Lib.hid (below_on bq.out q_5)
                replace f1 := Lib.hid f1
                clear hS
                go_wp2_with fail
                refine hK.out _ _ (run_toStr (.slice p7 F.length c7) F w_5 f0.out) (fun _ => wpAnyH_mono (S' := fun w' => (convert 59 9 (v_f1)).run Tryz.prog w' = .ok (.string ⟨F.toArray⟩) w' ∧ (convert 59 9 (.slice p7 F.length c7)).run Tryz.prog w' = .ok (.string ⟨F.toArray⟩) w') (fun _ h => h.2) _ _ _ _ ?_)
                have hS : (fun w' => (convert 59 9 (v_f1)).run Tryz.prog w' = .ok (.string ⟨F.toArray⟩) w' ∧ (convert 59 9 (.slice p7 F.length c7)).run Tryz.prog w' = .ok (.string ⟨F.toArray⟩) w') w_5 := ⟨run_toStr (v_f1) F w_5 f1.out, run_toStr (.slice p7 F.length c7) F w_5 f0.out⟩
                clear hK K
                try simp only [Act.put, List.setIfInBounds_toArray, List.set_cons_zero, List.set_cons_succ]
                clear q_5
                refine' wpAnyH_take (i := 6) (oi := ⟨_, _, _, _, _, _⟩) (v := _) rfl (by kernel_rfl) (by kernel_rfl) (by kernel_rfl) (fun _ _ _ h => h) (Or.inl ⟨by rfl, ?hy6⟩) hS ?rest6
                case hy6 => (intro wz hSw; (try dsimp only at hSw); go_simp; try with_reducible rfl)
                try simp only [Act.put, List.setIfInBounds_toArray, List.set_cons_zero, List.set_cons_succ]
                refine' wpAnyH_take (i := 7) (oi := ⟨_, _, _, _, _, _⟩) (v := _) rfl (by kernel_rfl) (by kernel_rfl) (by kernel_rfl) (fun _ _ _ h => h) (Or.inl ⟨by rfl, ?hy7⟩) hS ?rest7
                case hy7 => (intro wz hSw; (try dsimp only at hSw); go_simp; try with_reducible rfl)
                try simp only [Act.put, List.setIfInBounds_toArray, List.set_cons_zero, List.set_cons_succ]
                refine' wpAnyH_take (i := 8) (oi := ⟨_, _, _, _, _, _⟩) (v := _) rfl (by kernel_rfl) (by kernel_rfl) (by kernel_rfl) (fun _ _ _ h => h) (Or.inl ⟨by rfl, ?hy8⟩) hS ?rest8
                case hy8 => (intro wz hSw; (try dsimp only at hSw); go_simp; try with_reducible rfl)
                try simp only [Act.put, List.setIfInBounds_toArray, List.set_cons_zero, List.set_cons_succ]
                refine' wpAnyH_take (i := 9) (oi := ⟨_, _, _, _, _, _⟩) (v := _) rfl (by kernel_rfl) (by kernel_rfl) (by kernel_rfl) (fun _ _ _ h => h) (Or.inl ⟨by rfl, ?hy9⟩) hS ?rest9
                case hy9 => (intro wz hSw; (try dsimp only at hSw); go_simp; try with_reducible rfl)
                try simp only [Act.put, List.setIfInBounds_toArray, List.set_cons_zero, List.set_cons_succ]
                refine wpAnyH_done (by kernel_rfl) ?_ _
                clear hS
                go_simp
                go_wp2_with fail
                go_ret
                exact ⟨rfl, bq.out⟩
  · have hl' : decide (200 < b.length) = true := decide_eq_true (by omega)
    have hl2 : (200 : Int) < (b.length : Int) := by omega
    clear hN0 hS0 hF0 hK0 hA0 hW0
    go_enter Tryz.func4, Tryz.ntmps4
    go_wp2_with fail
    refine (hawake.out _ hT.out).mono ?_
    rintro e w1 ⟨rfl, q1⟩
    go_wp2_with fail
    go_ret
    exact ⟨rfl, q1⟩
end Go.Proofs.YtiidjkhkcckmkaaGreatDoor
