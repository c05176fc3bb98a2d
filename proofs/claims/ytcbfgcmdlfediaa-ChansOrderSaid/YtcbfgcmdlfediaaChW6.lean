/- Layer 16: the walk of ChansOrder. -/
import Derived.Test.YtcbfgcmdlfediaaChP
import Derived.Deep.RegionHeld3
import Derived.WalkKit
import Derived.OrdersHeld
import Derived.Deep.LoopGhost
import Derived.Deep.DeepCutAuto
namespace Go.Proofs.Ytcbfgcmdlfediaa
set_option linter.unusedSimpArgs false
set_option linter.unusedVariables false
open Go.RowKit Go.Lib
open Stg (Ch)
theorem sane_true16 (hS : SaneC16) {J : Nat → Prop} {W : World} {V : Value} {c : Ch} (hs : Stg.saneC c = true) (h : RCh J W V c) : Calls Try.prog 18 #[V] W fun e w' => e = .returned (.bool true) ∧ Below W.heap.size W w' := by
  have := hS J V c W (few_sane hs) h
  rw [hs] at this
  exact this
theorem take_len {c q : Ch} {l : List Int} {ok : Bool} (hs : Stg.saneC c = true) (h : Stg.takeC c = (q, l, ok)) : q.L.length = c.L.length - 1 := by
  cases ok with
  | true => rw [← Stg.asC_same hs, (take_yes h).1]; rfl
  | false => obtain ⟨h1, _, h2⟩ := take_not h; rw [h1, Stg.asC_same hs]; rw [Stg.asC_same hs] at h2; rw [h2]; rfl
theorem old_more {J : Nat → Prop} {w : World} {o : Obj} (h : Old J w) : Old (fun j => J j ∨ j = w.heap.size) (w.alloc o).drew := fun j hj => by
  have hs : (w.alloc o).drew.heap.size = w.heap.size + 1 := by simp
  rw [hs]
  rcases hj with hj | rfl
  · have := h j hj; omega
  · omega
theorem rch_more {J : Nat → Prop} {w : World} {o : Obj} {v : Value} {c : Ch} (h : RCh J w v c) : RCh (fun j => J j ∨ j = w.heap.size) (w.alloc o).drew v c :=
  rch_below (rch_mono (rch_up h) fun j _ e => e.elim .inl fun e => .inr (Nat.le_of_eq e.symm)) (below_new w o).drew
theorem rio_more {J : Nat → Prop} {w : World} {o : Obj} {v : Value} {c : List Int} (h : RIo J w v c) : RIo (fun j => J j ∨ j = w.heap.size) (w.alloc o).drew v c :=
  rio_below (rio_mono (rio_up h) fun j _ e => e.elim .inl fun e => .inr (Nat.le_of_eq e.symm)) (below_new w o).drew
set_option maxHeartbeats 12800000 in
set_option maxRecDepth 100000 in
theorem chansOrder_walk (hS : SaneC16) (hP : PutC16) (hT : TakeC16) (hC : CloseC16) (hE : SpentC16) (hN : CountC16) (v : Value) (ops : List (Int × List Int)) (w : World) (hv : ROps w v ops ∧ (∀ x ∈ ops, WfI x.2) ∧ ops.length ≤ maxLen) :
    Calls Try.prog 4 #[v] w fun e w' => e = .returned (.bool true) ∧ Below w.heap.size w w' := by
  obtain ⟨rops, _, hmax⟩ := hv
  obtain ⟨i0, hi0, hz0, hz1, hz2⟩ := info_parts info_i
  have hawake := Lib.hid (awake16 hS hP hT hN)
  obtain ⟨pv, cv, rfl⟩ := rops_form rops
  have bq := Lib.hid (Below.refl w.heap.size w)
  obtain ⟨F, hfew⟩ : ∃ F, fewO ops = F := ⟨_, rfl⟩
  have hF := fun h : F = true => fewO_few (hfew.trans h)
  obtain ⟨n, hn⟩ : ∃ n, ops.length = n := ⟨_, rfl⟩
  rw [hn] at rops ⊢
  have ro := Lib.hid rops
  replace rops := Lib.hid rops
  replace hfew := Lib.hid hfew
  rcases F with _ | _
  · clear hn hS hP hT hC hE hN hF
    go_enter Try.func4, Try.ntmps4
    go_wp2_with fail
    refine (hawake.out _).mono ?_
    rintro e w2 ⟨rfl, q2⟩
    replace ro := Lib.hid (rops_below ro.out q2)
    replace bq := Lib.hid (below_on bq.out q2)
    clear q2
    go_wp2_with fail
    refine (lfew16 _ ops w2 ro.out hmax).mono ?_
    rintro e w3 ⟨rfl, q3⟩
    replace ro := Lib.hid (rops_below ro.out q3)
    replace bq := Lib.hid (below_on bq.out q3)
    rw [hfew.out]
    clear q3
    go_wp2_with fail
    go_ret
    exact ⟨rfl, bq.out⟩
  · obtain ⟨hn80, hlen⟩ := hF rfl
    rw [hn] at hn80
    have hput := Lib.hid (fun J W V U (c : Ch) (b : List Int) (q : Ch × Bool) (hq : Stg.putC c b = q) (hs : Stg.saneC c = true) (hb : b.length ≤ 20) (ho : Old J W) (h : RCh J W V c) (h2 : RIo J W U b) => put_of16 hP hq ho (few_sane hs) (by omega) h h2)
    have htake := Lib.hid (fun J W V (c : Ch) (q : Ch × List Int × Bool) (hq : Stg.takeC c = q) (hs : Stg.saneC c = true) (ho : Old J W) (h : RCh J W V c) => take_of16 hT hq ho (few_sane hs) h)
    have hclose := Lib.hid (fun J W V (c : Ch) (hs : Stg.saneC c = true) (ho : Old J W) (h : RCh J W V c) => hC J V c W ho (few_sane hs) h)
    have hcount := Lib.hid (fun J W V (c : Ch) (hs : Stg.saneC c = true) (h : RCh J W V c) => hN J V c W (few_sane hs) h)
    have hsane := Lib.hid (fun J W V (c : Ch) (hs : Stg.saneC c = true) (h : RCh J W V c) => sane_true16 hS hs h)
    replace hlen := Lib.hid hlen
    replace hn := Lib.hid hn
    clear hS hP hT hC hE hN hF
    go_enter Try.func4, Try.ntmps4
    go_wp2_with fail
    refine (hawake.out _).mono ?_
    rintro e w2 ⟨rfl, q2⟩
    replace ro := Lib.hid (rops_below ro.out q2)
    replace bq := Lib.hid (below_on bq.out q2)
    clear q2
    go_wp2_with fail
    refine (lfew16 _ ops w2 ro.out hmax).mono ?_
    rintro e w3 ⟨rfl, q3⟩
    replace ro := Lib.hid (rops_below ro.out q3)
    replace bq := Lib.hid (below_on bq.out q3)
    rw [hfew.out]
    clear q3
    have hB0 := bq.out.size
    go_upto_region 7 with (fail)
    go_wp2_with fail
    have st0 : Ord w3.heap.size (20 * 0) 2 w (.slice none 0 0) (.slice none 0 0) (w3.alloc (.cells #[.slice none 0 0, .bool false] 28)) :=
      ⟨⟨[], false⟩, none, 0, [], [], blk_new w3 _ _, rch_zero _ _, ownI_nil _ _, ownI_nil _ _, .inl rfl, rfl, rfl, Nat.le_refl _, Nat.zero_le _, bq.out.alloc hB0 _⟩
    replace st0 := Lib.hid st0
    clear bq ro
    go_loopg [5, 6, 7] n (fun g vi vo v7 wr => ∃ i : Nat, i ≤ n ∧ v7 = .int .i64 i ∧ g = n - i ∧ Ord w3.heap.size (20 * i) 2 w vi vo wr)
    case atStart => exact ⟨0, Nat.zero_le _, rfl, rfl, st0.out⟩
    case round =>
      obtain ⟨i, hi, rfl, rfl, hord⟩ := hrel
      clear st0
      by_cases hlt : i < n
      · have hlt' : (i : Int) < (n : Int) := by omega
        have hio : i < ops.length := by rw [hn.out]; exact hlt
        obtain ⟨eb, eo, rfl, heb, hcell⟩ := rops_at rops.out (by rw [hn.out]; omega)
        obtain ⟨y0, u, y1, hub⟩ := hcell i hio
        have hb20 := hlen.out i hio
        obtain ⟨⟨K, b⟩, hKb⟩ : ∃ x, ops[i] = x := ⟨_, rfl⟩
        rw [hKb] at y0 hub hb20
        dsimp only at y0 hub hb20
        obtain ⟨pb, kb, rfl⟩ := ri_form hub
        have hy0 := Lib.hid (fun W (h : Below w.heap.size w W) => (h.cell (p := ⟨eb, eo + i * 2, none⟩) heb).trans y0)
        have hy1 := Lib.hid (fun W (h : Below w.heap.size w W) => (h.cell (p := ⟨eb, eo + i * 2 + 1, none⟩) heb).trans y1)
        have hub1 := Lib.hid (fun W (h : Below w.heap.size w W) => rio_below (rio_new (J := fun j => w.heap.size ≤ j) hub (fun j h => h)) h)
        replace hio := Lib.hid hio
        clear hcell y0 y1 hub hKb
        obtain ⟨c, p, k, inn, out, xB, rC, oi, oo, hap, hsn, he, hm, hzl, bq⟩ := hord
        have hltB := blk_lt xB
        have hold := jo_old hltB oi oo
        have hge := jo_ge oi oo
        have z0 := hy0.out _ bq
        obtain ⟨t0, ht0⟩ : ∃ t, (K == 0) = t := ⟨_, rfl⟩
        obtain ⟨t1, ht1⟩ : ∃ t, (K == 1) = t := ⟨_, rfl⟩
        obtain ⟨t2, ht2⟩ : ∃ t, (K == 2) = t := ⟨_, rfl⟩
        replace xB := Lib.hid xB
        replace rC := Lib.hid rC
        replace oi := Lib.hid oi
        replace oo := Lib.hid oo
        replace hap := Lib.hid hap
        replace bq := Lib.hid bq
        replace hold := Lib.hid hold
        replace hge := Lib.hid hge
        replace he := Lib.hid he
        replace hsn := Lib.hid hsn
        replace hltB := Lib.hid hltB
        go_upto_if 34 with (fail)
        go_cut [5, 6] (fun vi vo wx => Ord w3.heap.size (20 * i + 20) 2 w vi vo wx)
        case first =>
          clear z0
          rcases t0 with _ | _
          · go_wp2_with fail
            go_meet
            exact ⟨c, p, k, inn, out, xB.out, rC.out, oi.out, oo.out, hap.out, hsn.out, he.out, by omega, hzl, bq.out⟩
          · go_upto_region 11 with (fail)
            obtain ⟨⟨q, ok⟩, hq⟩ : ∃ q, Stg.putC c b = q := ⟨_, rfl⟩
            have hinv := inv_put hsn.out he.out hq
            have hB1 := Lib.hid (rio_mono (K := Jo w3.heap.size u5 u6) (hub1.out _ bq.out) (fun j _ h => by have := hge.out j h; omega))
            have H3 := Lib.hid (show _ ∧ _ ∧ _ from ⟨blk_cell xB.out 0 (.slice p c.L.length k) rfl, blk_cell xB.out 1 (.bool c.closed) rfl, hy1.out _ bq.out⟩)
            have hn0 := Lib.hid (show (⟨w3.heap.size, 0, none⟩ : Addr).block ≠ wr.heap.size from fun e => by have := hltB.out; have e' : w3.heap.size = wr.heap.size := e; omega)
            have hn2 := Lib.hid (show (⟨eb, eo + i * 2 + 1, none⟩ : Addr).block ≠ wr.heap.size from fun e => by have := bq.out.size; have e' : eb = wr.heap.size := e; omega)
            have hput := Lib.hid (fun J W V U o h h2 => hput.out J W V U c b (q, ok) hq hsn.out hb20 o h h2)
            replace hinv := Lib.hid hinv
            clear hq
            go_cut [8, 9] (fun v8 v9 wx => v9 = .bool ok ∧ Mid16 (Jo w3.heap.size u5 u6) wr q v8 wx)
            case first =>
              refine wp_region_held_drew (S := fun w' => w'.cell? ⟨w3.heap.size, 0, none⟩ = some (.slice p c.L.length k) ∧ w'.cell? ⟨w3.heap.size, 1, none⟩ = some (.bool c.closed) ∧ w'.cell? ⟨eb, eo + i * 2 + 1, none⟩ = some (.slice pb b.length kb)) (by kernel_rfl) (held3_drew H3.out) (fun hS => ?_)
              refine' wpAnyH_take (i := 0) (oi := ⟨_, _, _, _, _, _⟩) (v := _) rfl (by kernel_rfl) (by kernel_rfl) (by kernel_rfl) (fun _ _ _ h => h) (Or.inl ⟨by rfl, ?hy0⟩) hS ?rest0
              case hy0 => (intro wz hSw; (try dsimp only at hSw); go_simp; try with_reducible rfl)
              try simp only [Act.put, List.setIfInBounds_toArray, List.set_cons_zero, List.set_cons_succ]
              refine' wpAnyH_take (i := 1) (oi := ⟨_, _, _, _, _, _⟩) (v := _) rfl (by kernel_rfl) (by kernel_rfl) (by kernel_rfl) (fun _ _ _ h => h) (Or.inl ⟨by rfl, ?hy1⟩) hS ?rest1
              case hy1 => (intro wz hSw; (try dsimp only at hSw); go_simp; try with_reducible rfl)
              try simp only [Act.put, List.setIfInBounds_toArray, List.set_cons_zero, List.set_cons_succ]
              refine' wpAnyH_take (i := 2) (oi := ⟨_, _, _, _, _, _⟩) (v := _) rfl (by kernel_rfl) (by kernel_rfl) (by kernel_rfl) (fun _ _ _ h => h) (Or.inl ⟨by rfl, ?hy2⟩) hS ?rest2
              case hy2 => (intro wz hSw; (try dsimp only at hSw); go_simp; try with_reducible rfl)
              try simp only [Act.put, List.setIfInBounds_toArray, List.set_cons_zero, List.set_cons_succ]
              refine' wpAnyH_take (i := 3) (oi := ⟨_, _, _, _, _, _⟩) (v := _) rfl (by kernel_rfl) (by kernel_rfl) (by kernel_rfl) (fun _ _ _ h => h) (Or.inl ⟨by rfl, ?hy3⟩) hS ?rest3
              case hy3 => (intro wz hSw; (try dsimp only at hSw); go_simp; try with_reducible rfl)
              try simp only [Act.put, List.setIfInBounds_toArray, List.set_cons_zero, List.set_cons_succ]
              refine' wpAnyH_take (i := 4) (oi := ⟨_, _, _, _, _, _⟩) (v := _) rfl (by kernel_rfl) (by kernel_rfl) (by kernel_rfl) (fun _ _ _ h => h) (Or.inl ⟨by rfl, ?hy4⟩) hS ?rest4
              case hy4 => (intro wz hSw; (try dsimp only at hSw); go_simp; try with_reducible rfl)
              try simp only [Act.put, List.setIfInBounds_toArray, List.set_cons_zero, List.set_cons_succ]
              refine' wpAnyH_take (i := 5) (oi := ⟨_, _, _, _, _, _⟩) (v := _) rfl (by kernel_rfl) (by kernel_rfl) (by kernel_rfl) (fun _ _ _ h => h) (Or.inl ⟨by rfl, ?hy5⟩) hS ?rest5
              case hy5 => (intro wz hSw; (try dsimp only at hSw); go_simp; try with_reducible rfl)
              try simp only [Act.put, List.setIfInBounds_toArray, List.set_cons_zero, List.set_cons_succ]
              refine wpAnyH_ready (rs := [6, 10]) (by kernel_rfl) (by simp) (AllReadyH.cons rfl (fun K hK => ?_) (AllReadyH.cons rfl (fun K hK => ?_) AllReadyH.nil))
              · go_simp
                go_at_call 11
                refine (hput.out _ wr.drew _ _ hold.out (show RCh _ wr.drew _ _ from rC.out) (show RIo _ wr.drew _ _ from hB1.out)).mono ?_
                rintro e w4 ⟨v8, rfl, r8, q8⟩
                obtain ⟨p8, k8, rfl, _⟩ := rch_form r8
                dsimp only at r8 ⊢
                replace r8 := Lib.hid r8
                go_wp2_with fail
                refine hK.out _ _ (held3_16 q8 (held3_drew H3.out)) (fun hSn => ?_)
                clear hS
                have hS := hSn
                clear hSn
                clear hK K
                try simp only [Act.put, List.setIfInBounds_toArray, List.set_cons_zero, List.set_cons_succ]
                have h3 := Lib.hid hS
                refine' wpAnyH_take (i := 7) (oi := ⟨_, _, _, _, _, _⟩) (v := _) rfl (by kernel_rfl) (by kernel_rfl) (by kernel_rfl) (fun _ _ _ h => h) (Or.inl ⟨by rfl, ?hyA7⟩) hS ?restA7
                case hyA7 => (intro wz hSw; (try dsimp only at hSw); go_simp; try with_reducible rfl)
                try simp only [Act.put, List.setIfInBounds_toArray, List.set_cons_zero, List.set_cons_succ]
                refine' wpAnyH_take (i := 8) (oi := ⟨_, _, _, _, _, _⟩) (v := _) rfl (by kernel_rfl) (by kernel_rfl) (by kernel_rfl) (fun _ _ _ h => h) (Or.inl ⟨by rfl, ?hyA8⟩) hS ?restA8
                case hyA8 => (intro wz hSw; (try dsimp only at hSw); go_simp; try with_reducible rfl)
                try simp only [Act.put, List.setIfInBounds_toArray, List.set_cons_zero, List.set_cons_succ]
                refine' wpAnyH_take (i := 9) (oi := ⟨_, _, _, _, _, _⟩) (v := _) rfl (by kernel_rfl) (by kernel_rfl) (by kernel_rfl) (fun _ _ _ h => h) (Or.inl ⟨by rfl, ?hyA9⟩) hS ?restA9
                case hyA9 => (intro wz hSw; (try dsimp only at hSw); go_simp; try with_reducible rfl)
                try simp only [Act.put, List.setIfInBounds_toArray, List.set_cons_zero, List.set_cons_succ]
                refine wpAnyH_ready (rs := [10]) (by kernel_rfl) (by simp) (AllReadyH.cons rfl (fun K hK => ?_) AllReadyH.nil)
                go_simp
                go_wp2_with fail
                refine hK.out _ _ (held3_16 (below_new w4 _) h3.out) (fun hSn => ?_)
                clear hS
                have hS := hSn
                clear hSn
                clear hK K
                try simp only [Act.put, List.setIfInBounds_toArray, List.set_cons_zero, List.set_cons_succ]
                refine wpAnyH_ready (rs := [11]) (by kernel_rfl) (by simp) (AllReadyH.cons rfl (fun K hK => ?_) AllReadyH.nil)
                go_simp
                go_wp2_with fail
                refine hK.out _ _ (held3_16 (below_new w4 _) h3.out) (fun hSn => ?_)
                clear hS
                have hS := hSn
                clear hSn
                clear hK K
                try simp only [Act.put, List.setIfInBounds_toArray, List.set_cons_zero, List.set_cons_succ]
                refine' wpAnyH_take (i := 12) (oi := ⟨_, _, _, _, _, _⟩) (v := _) rfl (by kernel_rfl) (by kernel_rfl) (by kernel_rfl) (fun _ _ _ h => h) (Or.inl ⟨by rfl, ?hyA12⟩) hS ?restA12
                case hyA12 => (intro wz hSw; (try dsimp only at hSw); go_simp; try with_reducible rfl)
                try simp only [Act.put, List.setIfInBounds_toArray, List.set_cons_zero, List.set_cons_succ]
                refine wpAnyH_done (by kernel_rfl) ?_ _
                go_simp
                go_wp2_with fail
                go_meet
                exact ⟨rfl, mid16_last r8.out q8⟩
              · go_simp
                go_wp2_with fail
                refine hK.out _ _ (held3_16 (below_new _ _) (held3_drew H3.out)) (fun hSn => ?_)
                clear hS
                have hS := hSn
                clear hSn
                clear hK K
                try simp only [Act.put, List.setIfInBounds_toArray, List.set_cons_zero, List.set_cons_succ]
                refine wpAnyH_ready (rs := [6]) (by kernel_rfl) (by simp) (AllReadyH.cons rfl (fun K hK => ?_) AllReadyH.nil)
                go_simp
                go_at_call 11
                refine (hput.out _ (wr.alloc (.cells #[.slice none 0 0, .bool false] 28)).drew _ _ (old_more hold.out) (rch_more rC.out) (rio_more hB1.out)).mono ?_
                rintro e w4 ⟨v8, rfl, r8, q8⟩
                obtain ⟨p8, k8, rfl, _⟩ := rch_form r8
                dsimp only at r8 ⊢
                replace r8 := Lib.hid r8
                go_wp2_with fail
                refine hK.out _ _ (held3_16 q8 hS) (fun hSn => ?_)
                clear hS
                have hS := hSn
                clear hSn
                clear hK K
                try simp only [Act.put, List.setIfInBounds_toArray, List.set_cons_zero, List.set_cons_succ]
                have h3 := Lib.hid hS
                refine' wpAnyH_take (i := 7) (oi := ⟨_, _, _, _, _, _⟩) (v := _) rfl (by kernel_rfl) (by kernel_rfl) (by kernel_rfl) (fun _ _ _ h => h) (Or.inl ⟨by rfl, ?hyB7⟩) hS ?restB7
                case hyB7 => (intro wz hSw; (try dsimp only at hSw); go_simp; try with_reducible rfl)
                try simp only [Act.put, List.setIfInBounds_toArray, List.set_cons_zero, List.set_cons_succ]
                refine' wpAnyH_take (i := 8) (oi := ⟨_, _, _, _, _, _⟩) (v := _) rfl (by kernel_rfl) (by kernel_rfl) (by kernel_rfl) (fun _ _ _ h => h) (Or.inl ⟨by rfl, ?hyB8⟩) hS ?restB8
                case hyB8 => (intro wz hSw; (try dsimp only at hSw); go_simp; try with_reducible rfl)
                try simp only [Act.put, List.setIfInBounds_toArray, List.set_cons_zero, List.set_cons_succ]
                refine' wpAnyH_take (i := 9) (oi := ⟨_, _, _, _, _, _⟩) (v := _) rfl (by kernel_rfl) (by kernel_rfl) (by kernel_rfl) (fun _ _ _ h => h) (Or.inl ⟨by rfl, ?hyB9⟩) hS ?restB9
                case hyB9 => (intro wz hSw; (try dsimp only at hSw); go_simp; try with_reducible rfl)
                try simp only [Act.put, List.setIfInBounds_toArray, List.set_cons_zero, List.set_cons_succ]
                have h5 := blk_below (w := (wr.alloc (.cells #[.slice none 0 0, .bool false] 28)).drew) (blk_new wr #[.slice none 0 0, .bool false] 28) q8
                have h50 := blk_cell h5 0 _ rfl
                have h51 := blk_cell h5 1 _ rfl
                have f50 := blk_thaw h5 0
                have f51 := blk_thaw h5 1
                replace h5 := Lib.hid h5
                refine wpAnyH_ready (rs := [11]) (by kernel_rfl) (by simp) (AllReadyH.cons rfl (fun K hK => ?_) AllReadyH.nil)
                go_simp
                go_wp2_with fail
                refine hK.out _ _ (held3_set2 _ _ h3.out hn0.out hn0.out hn2.out) (fun hSn => ?_)
                clear hS
                have hS := hSn
                clear hSn
                clear hK K
                try simp only [Act.put, List.setIfInBounds_toArray, List.set_cons_zero, List.set_cons_succ]
                refine' wpAnyH_take (i := 12) (oi := ⟨_, _, _, _, _, _⟩) (v := _) rfl (by kernel_rfl) (by kernel_rfl) (by kernel_rfl) (fun _ _ _ h => h) (Or.inl ⟨by rfl, ?hyB12⟩) hS ?restB12
                case hyB12 => (intro wz hSw; (try dsimp only at hSw); go_simp; try with_reducible rfl)
                try simp only [Act.put, List.setIfInBounds_toArray, List.set_cons_zero, List.set_cons_succ]
                refine wpAnyH_done (by kernel_rfl) ?_ _
                go_simp
                go_wp2_with fail
                go_meet
                exact ⟨rfl, mid16_first r8.out q8⟩
            case rest =>
              obtain ⟨rfl, bt, p8, k8, rfl, hbt, hbx, rq, hbc⟩ := hcut
              have xB1 := blk_below xB.out hbc
              have oi1 := ownI_below oi.out hbc
              have oo1 := ownI_below oo.out hbc
              have bq1 := below_on bq.out hbc
              have hbs := hbc.size
              have f0 := blk_thaw xB1 0
              have f1 := blk_thaw xB1 1
              have e0 := blk_cell xB1 0 _ rfl
              have e1 := blk_cell xB1 1 _ rfl
              have d0 := blk_cell hbx 0 _ rfl
              have d1 := blk_cell hbx 1 _ rfl
              have xB2 := Lib.hid (blk_setAt16 (blk_setAt16 xB1 0 (.slice p8 q.L.length k8)) 1 (.bool q.closed))
              have rq2 := Lib.hid (rch_but rq (only_set2 wc w3.heap.size (.slice p8 q.L.length k8) (.bool q.closed) (.inl rfl)))
              have oi2 := Lib.hid (own_set2 oi1 (Nat.lt_succ_self _) (.slice p8 q.L.length k8) (.bool q.closed))
              have oo2 := Lib.hid (own_set2 oo1 (Nat.lt_succ_self _) (.slice p8 q.L.length k8) (.bool q.closed))
              have bq2 := Lib.hid (below_set2 bq1 hB0 (.slice p8 q.L.length k8) (.bool q.closed))
              have hql : q.L.length ≤ 2 := ((Stg.saneC_iff _).1 hinv.out.1).1
              have hsz : w3.heap.size + 1 ≤ ((wc.setCell ⟨w3.heap.size, 0, none⟩ (.slice p8 q.L.length k8)).setCell ⟨w3.heap.size, 1, none⟩ (.bool q.closed)).heap.size := by have := hltB.out; simp; omega
              have g1 := hy1.out _ bq2.out
              have sb := Lib.hid (hub1.out _ bq2.out)
              replace hsz := Lib.hid hsz
              replace g1 := Lib.hid g1
              replace xB1 := Lib.hid xB1
              replace hbx := Lib.hid hbx
              replace rq := Lib.hid rq
              clear oi1 oo1 bq1 hbc
              go_upto_region 13 with (fail)
              clear f0 f1 e0 e1 d0 d1
              replace g1 := g1.out
              rcases ok with _ | _
              · go_wp2_with fail
                go_meet
                exact ⟨q, p8, k8, inn, out, xB2.out, rq2.out, oi2.out, oo2.out, hap.out, hinv.out.1, hinv.out.2.2 (by trivial), by omega, hql, bq2.out⟩
              · skip
                go_wp2_with (at_builtin; (refine wpList_append_src3 rfl _ _ 25 rfl (w3.heap.size + 1) 3 i0 (.int .i64 0) 8 Try.underlying25 hi0 hz0 hz1 hz2 rfl _ _ _ rfl oi2.out _ _ rfl (ri_src sb.out.1) (oneCellI _) (by simp; unfold maxLen; omega) (by simp; omega) hsz.out ?_); intro v5 w5 hown5 hgrow5 hlies5)
                go_meet
                exact ord_in xB2.out rq2.out oi2.out oo2.out hap.out hinv.out.1 (hinv.out.2.1 (by trivial)) (by simp; omega) hql bq2.out hB0 (ownI_of_row hown5 (by simp) (by simp)) hgrow5 hlies5
        case rest =>
          clear hap hold hge he hsn xB rC oi oo bq hltB hm hzl
          obtain ⟨c, p, k, inn, out, xB, rC, oi, oo, hap, hsn, he, hm, hzl, bq⟩ := hcut
          have hltB := blk_lt xB
          have hold := jo_old hltB oi oo
          have hge := jo_ge oi oo
          have z1 := hy0.out _ bq
          replace xB := Lib.hid xB
          replace rC := Lib.hid rC
          replace oi := Lib.hid oi
          replace oo := Lib.hid oo
          replace hap := Lib.hid hap
          replace bq := Lib.hid bq
          replace hold := Lib.hid hold
          replace hge := Lib.hid hge
          replace he := Lib.hid he
          replace hsn := Lib.hid hsn
          replace hltB := Lib.hid hltB
          go_upto_if 59 with (fail)
          clear z1
          go_cut [5, 6] (fun vi vo wx => Ord w3.heap.size (20 * i + 20) 2 w vi vo wx)
          case first =>
            rcases t1 with _ | _
            · go_wp2_with fail
              go_meet
              exact ⟨c, p, k, inn, out, xB.out, rC.out, oi.out, oo.out, hap.out, hsn.out, he.out, hm, hzl, bq.out⟩
            · obtain ⟨⟨q, l, ok⟩, hq⟩ : ∃ q, Stg.takeC c = q := ⟨_, rfl⟩
              have hinv := inv_take hsn.out he.out hq
              have hql : q.L.length ≤ 2 := ((Stg.saneC_iff _).1 hinv.1).1
              have hol : (out ++ l).length ≤ 20 * i + 20 := by have h0 := hinv.2; have := congrArg List.length h0; rw [List.length_append] at this; omega
              have htake := Lib.hid (fun J W V o h => htake.out J W V c (q, l, ok) hq hsn.out o h)
              replace hinv := Lib.hid hinv
              have hol1 : out.length + l.length ≤ 20 * i + 20 := by simpa using hol
              clear hol
              clear hq
              have xB_0 := blk_cell xB.out 0 _ rfl
              have xB_1 := blk_cell xB.out 1 _ rfl
              go_wp2_with fail
              refine (htake.out _ _ _ hold.out rC.out).mono ?_
              rintro e w21 ⟨v3, u3, rfl, r3, s3, q21⟩
              clear xB_0 xB_1
              replace xB := Lib.hid (blk_below xB.out q21)
              replace rC := Lib.hid (rch_below rC.out q21)
              replace oi := Lib.hid (ownI_below oi.out q21)
              replace oo := Lib.hid (ownI_below oo.out q21)
              replace bq := Lib.hid (below_on bq.out q21)
              obtain ⟨p3, k3, rfl, _⟩ := rch_form r3
              obtain ⟨a3, d3, rfl⟩ := ri_form s3.1
              dsimp only at r3 s3 ⊢
              replace r3 := Lib.hid r3
              replace s3 := Lib.hid s3
              have hsz0 := Lib.hid (Nat.lt_of_lt_of_le hltB.out q21.size)
              clear q21
              clear rC
              replace xB := Lib.hid (blk_below xB.out (below_new w21 (.cells #[.slice p3 q.L.length k3, .bool q.closed] 28)))
              replace oi := Lib.hid (ownI_below oi.out (below_new w21 (.cells #[.slice p3 q.L.length k3, .bool q.closed] 28)))
              replace oo := Lib.hid (ownI_below oo.out (below_new w21 (.cells #[.slice p3 q.L.length k3, .bool q.closed] 28)))
              replace r3 := Lib.hid (rch_below r3.out (below_new w21 (.cells #[.slice p3 q.L.length k3, .bool q.closed] 28)))
              replace s3 := Lib.hid (rio_below s3.out (below_new w21 (.cells #[.slice p3 q.L.length k3, .bool q.closed] 28)))
              replace bq := Lib.hid (below_on bq.out (below_new w21 (.cells #[.slice p3 q.L.length k3, .bool q.closed] 28)))
              have x3 := Lib.hid (blk_new w21 #[.slice p3 q.L.length k3, .bool q.closed] 28)
              have f0 := blk_thaw xB.out 0
              have f1 := blk_thaw xB.out 1
              have xB_0 := blk_cell xB.out 0 _ rfl
              have xB_1 := blk_cell xB.out 1 _ rfl
              have x3_0 := blk_cell x3.out 0 _ rfl
              have x3_1 := blk_cell x3.out 1 _ rfl
              go_upto_region 18 with (fail)
              clear f0 f1
              clear xB_0 xB_1 x3_0 x3_1
              replace xB := Lib.hid (blk_setAt16 (blk_setAt16 xB.out 0 (.slice p3 q.L.length k3)) 1 (.bool q.closed))
              replace oi := Lib.hid (own_set2 oi.out (Nat.lt_succ_self _) (.slice p3 q.L.length k3) (.bool q.closed))
              replace oo := Lib.hid (own_set2 oo.out (Nat.lt_succ_self _) (.slice p3 q.L.length k3) (.bool q.closed))
              replace r3 := Lib.hid (rch_but r3.out (only_set2 _ (w3.heap.size) (.slice p3 q.L.length k3) (.bool q.closed) (.inl rfl)))
              replace s3 := Lib.hid (rio_but s3.out (only_set2 _ (w3.heap.size) (.slice p3 q.L.length k3) (.bool q.closed) (.inl rfl)))
              clear x3
              replace bq := Lib.hid (below_set2 bq.out (show w.heap.size ≤ w3.heap.size by omega) (.slice p3 q.L.length k3) (.bool q.closed))
              have hsz := Lib.hid (show w3.heap.size + 1 ≤ (((w21.alloc (.cells #[.slice p3 q.L.length k3, .bool q.closed] 28)).setCell ⟨w3.heap.size, 0, none⟩ (.slice p3 q.L.length k3)).setCell ⟨w3.heap.size, 1, none⟩ (.bool q.closed)).heap.size by have := hsz0.out; simp; omega)
              go_wp2_with (at_builtin; (refine wpList_append_src3 rfl _ _ 25 rfl (w3.heap.size + 1) 3 i0 (.int .i64 0) 8 Try.underlying25 hi0 hz0 hz1 hz2 rfl _ _ _ rfl oo.out _ _ rfl (ri_src s3.out.1) (oneCellI _) (by simp; unfold maxLen; omega) (by simp; omega) hsz.out ?_); intro v5 w5 hown5 hgrow5 hlies5)
              go_meet
              exact ord_out xB.out r3.out oi.out oo.out hap.out hinv.out.1 hinv.out.2 hm hql bq.out hB0 (ownI_of_row hown5 (by simp) (by simp)) hgrow5 hlies5
          case rest =>
            clear hap hold hge he hsn xB rC oi oo bq hltB hm hzl
            obtain ⟨c, p, k, inn, out, xB, rC, oi, oo, hap, hsn, he, hm, hzl, bq⟩ := hcut
            have hltB := blk_lt xB
            have hold := jo_old hltB oi oo
            have hge := jo_ge oi oo
            have z2 := hy0.out _ bq
            replace xB := Lib.hid xB
            replace rC := Lib.hid rC
            replace oi := Lib.hid oi
            replace oo := Lib.hid oo
            replace hap := Lib.hid hap
            replace bq := Lib.hid bq
            replace hold := Lib.hid hold
            replace hge := Lib.hid hge
            replace he := Lib.hid he
            replace hsn := Lib.hid hsn
            replace hltB := Lib.hid hltB
            go_upto_if 75 with (fail)
            clear z2
            go_cut [5, 6] (fun vi vo wx => Ord w3.heap.size (20 * i + 20) 2 w vi vo wx)
            case first =>
              rcases t2 with _ | _
              · go_wp2_with fail
                go_meet
                exact ⟨c, p, k, inn, out, xB.out, rC.out, oi.out, oo.out, hap.out, hsn.out, he.out, hm, hzl, bq.out⟩
              · skip
                have xB_0 := blk_cell xB.out 0 _ rfl
                have xB_1 := blk_cell xB.out 1 _ rfl
                go_wp2_with fail
                refine (hclose.out _ _ _ c hsn.out hold.out rC.out).mono ?_
                rintro e w31 ⟨v3, rfl, r3, q31⟩
                clear xB_0 xB_1
                replace xB := Lib.hid (blk_below xB.out q31)
                replace rC := Lib.hid (rch_below rC.out q31)
                replace oi := Lib.hid (ownI_below oi.out q31)
                replace oo := Lib.hid (ownI_below oo.out q31)
                replace bq := Lib.hid (below_on bq.out q31)
                obtain ⟨p3, k3, rfl, _⟩ := rch_form r3
                replace r3 := Lib.hid r3
                clear q31
                clear rC
                have f0 := blk_thaw xB.out 0
                have f1 := blk_thaw xB.out 1
                have xB_0 := blk_cell xB.out 0 _ rfl
                have xB_1 := blk_cell xB.out 1 _ rfl
                have xB9 := xB
                replace xB := Lib.hid (blk_setAt16 (blk_setAt16 xB.out 0 (.slice p3 (Stg.closeC c).L.length k3)) 1 (.bool (Stg.closeC c).closed))
                replace oi := Lib.hid (own_set2 oi.out (Nat.lt_succ_self _) (.slice p3 (Stg.closeC c).L.length k3) (.bool (Stg.closeC c).closed))
                replace oo := Lib.hid (own_set2 oo.out (Nat.lt_succ_self _) (.slice p3 (Stg.closeC c).L.length k3) (.bool (Stg.closeC c).closed))
                replace r3 := Lib.hid (rch_but r3.out (only_set2 _ (w3.heap.size) (.slice p3 (Stg.closeC c).L.length k3) (.bool (Stg.closeC c).closed) (.inl rfl)))
                replace bq := Lib.hid (below_set2 bq.out (show w.heap.size ≤ w3.heap.size by omega) (.slice p3 (Stg.closeC c).L.length k3) (.bool (Stg.closeC c).closed))
                go_wp2_with fail
                go_meet
                exact ⟨Stg.closeC c, p3, k3, inn, out, xB.out, r3.out, oi.out, oo.out, hap.out, Stg.close_sane c, by rw [he.out]; unfold Stg.closeC; rw [Stg.asC_same hsn.out], hm, by unfold Stg.closeC; rw [Stg.asC_same hsn.out]; exact hzl, bq.out⟩
            case rest =>
              clear hap hold hge he hsn xB rC oi oo bq hltB hm hzl
              obtain ⟨c, p, k, inn, out, xB, rC, oi, oo, hap, hsn, he, hm, hzl, bq⟩ := hcut
              have hltB := blk_lt xB
              have hold := jo_old hltB oi oo
              have hge := jo_ge oi oo
              have hcn := inv_count hsn he
              have hc16 := Stg.count_le c
              obtain ⟨pi, ki, rfl⟩ := ri_form (ri_of_own oi)
              obtain ⟨po, ko, rfl⟩ := ri_form (ri_of_own oo)
              have hcount1 := fun J W V (h : RCh J W V c) => hcount.out J W V c hsn h
              have hsane1 := Lib.hid (fun J W V (h : RCh J W V c) => hsane.out J W V c hsn h)
              obtain ⟨N, hN⟩ : ∃ N, Stg.countC c = N := ⟨_, rfl⟩
              rw [hN] at hcn hc16 hcount1
              replace hcount1 := Lib.hid hcount1
              have hsub : (inn.length : Int) - (out.length : Int) = (N : Int) := by omega
              have n1 : ¬ 16 < N := by omega
              have n2 : ¬ (16 : Int) < (N : Int) := by omega
              have n3 : out.length ≤ 20 * i + 20 := by omega
              replace hcn := Lib.hid hcn
              replace xB := Lib.hid xB
              replace rC := Lib.hid rC
              replace oi := Lib.hid oi
              replace oo := Lib.hid oo
              replace hap := Lib.hid hap
              replace bq := Lib.hid bq
              replace hold := Lib.hid hold
              replace hge := Lib.hid hge
              replace he := Lib.hid he
              replace hsn := Lib.hid hsn
              replace hltB := Lib.hid hltB
              clear hN
              have xB_0 := blk_cell xB.out 0 _ rfl
              have xB_1 := blk_cell xB.out 1 _ rfl
              go_wp2_with fail
              refine (hcount1.out _ _ _ rC.out).mono ?_
              rintro e w41 ⟨rfl, q41⟩
              clear xB_0 xB_1
              replace xB := Lib.hid (blk_below xB.out q41)
              replace rC := Lib.hid (rch_below rC.out q41)
              replace oi := Lib.hid (ownI_below oi.out q41)
              replace oo := Lib.hid (ownI_below oo.out q41)
              replace bq := Lib.hid (below_on bq.out q41)
              clear q41
              have xB_0 := blk_cell xB.out 0 _ rfl
              have xB_1 := blk_cell xB.out 1 _ rfl
              go_wp2_with fail
              refine (hcount1.out _ _ _ rC.out).mono ?_
              rintro e w42 ⟨rfl, q42⟩
              clear xB_0 xB_1
              replace xB := Lib.hid (blk_below xB.out q42)
              replace rC := Lib.hid (rch_below rC.out q42)
              replace oi := Lib.hid (ownI_below oi.out q42)
              replace oo := Lib.hid (ownI_below oo.out q42)
              replace bq := Lib.hid (below_on bq.out q42)
              clear q42
              have xB_0 := blk_cell xB.out 0 _ rfl
              have xB_1 := blk_cell xB.out 1 _ rfl
              go_wp2_with fail
              refine (hsane1.out _ _ _ rC.out).mono ?_
              rintro e w43 ⟨rfl, q43⟩
              clear xB_0 xB_1
              replace xB := Lib.hid (blk_below xB.out q43)
              replace rC := Lib.hid (rch_below rC.out q43)
              replace oi := Lib.hid (ownI_below oi.out q43)
              replace oo := Lib.hid (ownI_below oo.out q43)
              replace bq := Lib.hid (below_on bq.out q43)
              clear q43
              go_wp2_with fail
              go_roundg (n - (i + 1))
              case measure => omega
              case rel => exact ⟨i + 1, by omega, by go_num, rfl, c, p, k, inn, out, xB.out, rC.out, oi.out, oo.out, hap.out, hsn.out, he.out, by omega, hzl, bq.out⟩
      · obtain rfl : i = n := by omega
        have hlt' : decide ((i : Int) < (i : Int)) = false := by simp
        replace hord := Lib.hid hord
        go_wp2_with fail
        go_loopg [6, 13] 2 (fun g vo v13 wr => ∃ t : Nat, t ≤ 2 ∧ v13 = .int .i64 t ∧ g = 2 - t ∧ Ord w3.heap.size (20 * i) (2 - t) w u5 vo wr)
        case atStart => exact ⟨0, Nat.zero_le _, rfl, rfl, hord.out⟩
        case round =>
          obtain ⟨t, ht, rfl, rfl, hord2⟩ := hrel
          clear hord
          obtain ⟨c, p, k, inn, out, xB, rC, oi, oo, hap, hsn, he, hm, hzl, bq⟩ := hord2
          have hltB := blk_lt xB
          have hold := jo_old hltB oi oo
          have hge := jo_ge oi oo
          by_cases hlt2 : t < 2
          · have hlt2' : (t : Int) < 2 := by omega
            have ht1 : t ≤ 1 := by omega
            obtain ⟨⟨q, l, ok⟩, hq⟩ : ∃ q, Stg.takeC c = q := ⟨_, rfl⟩
            have hinv := inv_take hsn he hq
            have hql : q.L.length ≤ 2 - (t + 1) := by
              have h1 := take_len hsn hq
              omega
            have hol : (out ++ l).length ≤ 20 * i := by have h0 := hinv.2; have := congrArg List.length h0; rw [List.length_append] at this; omega
            have hol1 : out.length + l.length ≤ 20 * i := by simpa using hol
            have htake := Lib.hid (fun J W V o h => htake.out J W V c (q, l, ok) hq hsn o h)
            replace xB := Lib.hid xB
            replace rC := Lib.hid rC
            replace oi := Lib.hid oi
            replace oo := Lib.hid oo
            replace hap := Lib.hid hap
            replace bq := Lib.hid bq
            replace hold := Lib.hid hold
            replace hge := Lib.hid hge
            replace he := Lib.hid he
            replace hsn := Lib.hid hsn
            replace hltB := Lib.hid hltB
            replace hinv := Lib.hid hinv
            clear hq hol
            have xB_0 := blk_cell xB.out 0 _ rfl
            have xB_1 := blk_cell xB.out 1 _ rfl
            go_wp2_with fail
            refine (htake.out _ _ _ hold.out rC.out).mono ?_
            rintro e w21 ⟨v3, u3, rfl, r3, s3, q21⟩
            clear xB_0 xB_1
            replace xB := Lib.hid (blk_below xB.out q21)
            replace rC := Lib.hid (rch_below rC.out q21)
            replace oi := Lib.hid (ownI_below oi.out q21)
            replace oo := Lib.hid (ownI_below oo.out q21)
            replace bq := Lib.hid (below_on bq.out q21)
            obtain ⟨p3, k3, rfl, _⟩ := rch_form r3
            obtain ⟨a3, d3, rfl⟩ := ri_form s3.1
            dsimp only at r3 s3 ⊢
            replace r3 := Lib.hid r3
            replace s3 := Lib.hid s3
            have hsz0 := Lib.hid (Nat.lt_of_lt_of_le hltB.out q21.size)
            clear q21
            clear rC
            replace xB := Lib.hid (blk_below xB.out (below_new w21 (.cells #[.slice p3 q.L.length k3, .bool q.closed] 28)))
            replace oi := Lib.hid (ownI_below oi.out (below_new w21 (.cells #[.slice p3 q.L.length k3, .bool q.closed] 28)))
            replace oo := Lib.hid (ownI_below oo.out (below_new w21 (.cells #[.slice p3 q.L.length k3, .bool q.closed] 28)))
            replace r3 := Lib.hid (rch_below r3.out (below_new w21 (.cells #[.slice p3 q.L.length k3, .bool q.closed] 28)))
            replace s3 := Lib.hid (rio_below s3.out (below_new w21 (.cells #[.slice p3 q.L.length k3, .bool q.closed] 28)))
            replace bq := Lib.hid (below_on bq.out (below_new w21 (.cells #[.slice p3 q.L.length k3, .bool q.closed] 28)))
            have x3 := Lib.hid (blk_new w21 #[.slice p3 q.L.length k3, .bool q.closed] 28)
            have f0 := blk_thaw xB.out 0
            have f1 := blk_thaw xB.out 1
            have xB_0 := blk_cell xB.out 0 _ rfl
            have xB_1 := blk_cell xB.out 1 _ rfl
            have x3_0 := blk_cell x3.out 0 _ rfl
            have x3_1 := blk_cell x3.out 1 _ rfl
            go_upto_region 28 with (fail)
            clear f0 f1
            clear xB_0 xB_1 x3_0 x3_1
            replace xB := Lib.hid (blk_setAt16 (blk_setAt16 xB.out 0 (.slice p3 q.L.length k3)) 1 (.bool q.closed))
            replace oi := Lib.hid (own_set2 oi.out (Nat.lt_succ_self _) (.slice p3 q.L.length k3) (.bool q.closed))
            replace oo := Lib.hid (own_set2 oo.out (Nat.lt_succ_self _) (.slice p3 q.L.length k3) (.bool q.closed))
            replace r3 := Lib.hid (rch_but r3.out (only_set2 _ (w3.heap.size) (.slice p3 q.L.length k3) (.bool q.closed) (.inl rfl)))
            replace s3 := Lib.hid (rio_but s3.out (only_set2 _ (w3.heap.size) (.slice p3 q.L.length k3) (.bool q.closed) (.inl rfl)))
            clear x3
            replace bq := Lib.hid (below_set2 bq.out (show w.heap.size ≤ w3.heap.size by omega) (.slice p3 q.L.length k3) (.bool q.closed))
            have hsz := Lib.hid (show w3.heap.size + 1 ≤ (((w21.alloc (.cells #[.slice p3 q.L.length k3, .bool q.closed] 28)).setCell ⟨w3.heap.size, 0, none⟩ (.slice p3 q.L.length k3)).setCell ⟨w3.heap.size, 1, none⟩ (.bool q.closed)).heap.size by have := hsz0.out; simp; omega)
            go_wp2_with (at_builtin; (refine wpList_append_src3 rfl _ _ 25 rfl (w3.heap.size + 1) 3 i0 (.int .i64 0) 8 Try.underlying25 hi0 hz0 hz1 hz2 rfl _ _ _ rfl oo.out _ _ rfl (ri_src s3.out.1) (oneCellI _) (by simp; unfold maxLen; omega) (by simp; omega) hsz.out ?_); intro v5 w5 hown5 hgrow5 hlies5)
            go_roundg (2 - (t + 1))
            case measure => omega
            case rel => exact ⟨t + 1, by omega, by go_num, rfl, ord_out xB.out r3.out oi.out oo.out hap.out hinv.out.1 hinv.out.2 hm hql bq.out hB0 (ownI_of_row hown5 (by simp) (by simp)) hgrow5 hlies5⟩
          · obtain rfl : t = 2 := by omega
            have hL : c.L = [] := List.eq_nil_of_length_eq_zero (by omega)
            have hio2 : inn = out := by rw [he, hL]; simp
            have hcn : Stg.countC c = 0 := by have := inv_count hsn he; rw [hio2] at this; omega
            have hcount1 := fun J W V (h : RCh J W V c) => hcount.out J W V c hsn h
            rw [hcn] at hcount1
            have hil : inn.length ≤ 100000 := by omega
            obtain ⟨pi, ki, rfl⟩ := ri_form (ri_of_own oi)
            obtain ⟨po, ko, rfl⟩ := ri_form (ri_of_own oo)
            have hsame := fun W (h1 : OwnI (w3.heap.size + 1) (.slice pi inn.length ki) inn W) (h2 : OwnI (w3.heap.size + 1) (.slice po out.length ko) out W) => same_eq _ _ inn out W hio2 hil (ri_of_own h1) (ri_of_own h2)
            replace hcount1 := Lib.hid hcount1
            replace hsame := Lib.hid hsame
            replace xB := Lib.hid xB
            replace rC := Lib.hid rC
            replace oi := Lib.hid oi
            replace oo := Lib.hid oo
            replace hap := Lib.hid hap
            replace bq := Lib.hid bq
            replace hold := Lib.hid hold
            replace hge := Lib.hid hge
            replace he := Lib.hid he
            replace hsn := Lib.hid hsn
            replace hltB := Lib.hid hltB
            clear hL hio2 hcn
            go_wp2_with fail
            refine (hsame.out _ oi.out oo.out).mono ?_
            rintro e w51 ⟨rfl, q51⟩
            replace xB := Lib.hid (blk_below xB.out q51)
            replace rC := Lib.hid (rch_below rC.out q51)
            replace oi := Lib.hid (ownI_below oi.out q51)
            replace oo := Lib.hid (ownI_below oo.out q51)
            replace bq := Lib.hid (below_on bq.out q51)
            clear q51
            have xB_0 := blk_cell xB.out 0 _ rfl
            have xB_1 := blk_cell xB.out 1 _ rfl
            go_wp2_with fail
            refine (hcount1.out _ _ _ rC.out).mono ?_
            rintro e w52 ⟨rfl, q52⟩
            clear xB_0 xB_1
            replace xB := Lib.hid (blk_below xB.out q52)
            replace rC := Lib.hid (rch_below rC.out q52)
            replace oi := Lib.hid (ownI_below oi.out q52)
            replace oo := Lib.hid (ownI_below oo.out q52)
            replace bq := Lib.hid (below_on bq.out q52)
            clear q52
            go_wp2_with fail
            go_ret
            exact ⟨rfl, bq.out⟩
end Go.Proofs.Ytcbfgcmdlfediaa
