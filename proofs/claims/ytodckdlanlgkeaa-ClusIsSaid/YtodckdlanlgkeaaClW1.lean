/- Layer 11: the walk of ClusIs. -/
import Derived.Test.YtodckdlanlgkeaaClW2
import Derived.Test.YtodckdlanlgkeaaClR4
import Derived.Test.YtodckdlanlgkeaaSaT
namespace Go.Proofs.Ytodckdlanlgkeaa
set_option linter.unusedSimpArgs false
set_option linter.unusedVariables false
open Go.RowKit Go.Lib


theorem same_selfT (v1 v2 : Value) (l : List Bool) (w : World) (hl : l.length ≤ 100000) (h1 : RT w v1 l) (h2 : RT w v2 l) :
    Calls Try.prog 18 #[v1, v2] w fun e w' => e = .returned (.bool true) ∧ Below w.heap.size w w' := by
  refine (same_anyT v1 v2 l l w hl h1 h2).mono ?_
  rintro e w' ⟨rfl, n, rfl⟩
  exact ⟨by rw [show sameBT l l = true from decide_eq_true rfl], drewN_below w n⟩

set_option maxHeartbeats 12800000 in
set_option maxRecDepth 100000 in
theorem clusIs_walk (hS : SaneC11) (hE : EndsC11) (hN : NextC11) (hC : CutsC11) (s : Clu.CS) (r : Int) (v : Value) (l : List Int) (w : World) (_ : -9223372036854775808 ≤ r ∧ r ≤ 9223372036854775807) (hv : RI w v l ∧ WfI l) :
    Calls Try.prog 3 #[csV s, .int .i64 r, v] w fun e w' => e = .returned (.bool true) ∧ Below w.heap.size w w' := by
  obtain ⟨hrl, _⟩ := hv
  obtain ⟨pl, cl, rfl⟩ := ri_form hrl
  have hawake := Lib.hid (awake11 hS hE hN hC)
  by_cases hl : l.length ≤ 200
  · have hl' : decide (200 < l.length) = false := decide_eq_false (by omega)
    have hl2 : ¬ (200 : Int) < (l.length : Int) := by omega
    obtain ⟨g, hg⟩ : ∃ g, Prp.gcbI r = g := ⟨_, rfl⟩
    have hours := fun W => ours_any s W
    have hnext := fun W => hN s r W
    have rnext := fun W => rnext11_any s r W
    obtain ⟨pp, oo, hn⟩ : ∃ pp oo, Clu.nextI s r = ⟨true, g, pp, oo⟩ := ⟨_, _, by rw [← hg]; rfl⟩
    have htheirs := fun W => theirs_any ⟨true, g, pp, oo⟩ W
    rw [hn] at hnext rnext
    have hsane := fun W => hS s W
    have rsane := fun W => rsane11_any s W
    have hends := fun W => hE s r W
    have rends := fun W => rends11_any s r W
    obtain ⟨c, hc⟩ : ∃ c, Clu.saneB s = c := ⟨_, rfl⟩
    obtain ⟨d, hd⟩ : ∃ c, Clu.endsI s r = c := ⟨_, rfl⟩
    rw [hc] at hsane rsane
    rw [hd] at hends rends
    have hcuts := fun W h => cuts_of11 hC (v := .slice pl l.length cl) (l := l) (w := W) rfl (by omega) h
    have rcuts := fun W h => rcuts_any (.slice pl l.length cl) l W (by omega) h
    have hAl := Clu.cuts_len Clu.zero l
    obtain ⟨A, hA⟩ : ∃ A, Clu.cutsI Clu.zero l = A := ⟨_, rfl⟩
    rw [hA] at hcuts rcuts hAl
    obtain ⟨on, k, p, o⟩ := s
    unfold csV at hours hnext rnext htheirs hsane rsane hends rends ⊢
    dsimp only at hours hnext rnext htheirs hsane rsane hends rends ⊢
    have hgg : (g == g) = true := by simp
    have hpp : (pp == pp) = true := by simp
    have hoo : (oo == oo) = true := by simp
    have hcc : (c == c) = true := by simp
    have hdd : (d == d) = true := by simp
    have hAl2 : A.length ≤ 200 := by omega
    replace hours := Lib.hid hours
    replace hnext := Lib.hid hnext
    replace rnext := Lib.hid rnext
    replace htheirs := Lib.hid htheirs
    replace hsane := Lib.hid hsane
    replace rsane := Lib.hid rsane
    replace hends := Lib.hid hends
    replace rends := Lib.hid rends
    replace hcuts := Lib.hid hcuts
    replace rcuts := Lib.hid rcuts
    have hbx := Lib.hid (blk_new w #[.bool on, .int .i64 k, .bool p, .bool o] 23)
    have nb := below_new w (.cells #[.bool on, .int .i64 k, .bool p, .bool o] 23)
    replace hrl := Lib.hid (ri_below hrl nb)
    have b0 := Lib.hid nb
    clear hn hg hc hd hA hAl hS hE hN hC nb
    go_enter Try.func3, Try.ntmps3
    go_wp2_with fail
    refine (hawake.out _).mono ?_
    rintro e w1 ⟨rfl, q1⟩
    have hb1 := blk_below hbx.out q1
    have b1 := below_on b0.out q1
    replace hrl := Lib.hid (ri_drew (ri_below hrl.out q1))
    go_upto_region 4 with (fail)
    have H4 := Lib.hid (And.intro (blk_cell hb1 0 _ rfl) (And.intro (blk_cell hb1 1 _ rfl) (And.intro (blk_cell hb1 2 _ rfl) (blk_cell hb1 3 _ rfl))))
    have bq := Lib.hid b1.drew
    clear hb1 b1 q1 hbx b0
    refine wp_region_held_drew (S := fun w' => w'.cell? ⟨w.heap.size, 0, none⟩ = some (.bool on) ∧ w'.cell? ⟨w.heap.size, 1, none⟩ = some (.int .i64 k) ∧ w'.cell? ⟨w.heap.size, 2, none⟩ = some (.bool p) ∧ w'.cell? ⟨w.heap.size, 3, none⟩ = some (.bool o)) (by kernel_rfl) (H4.out) (fun hS => ?_)
    refine' wpAnyH_take (i := 0) (oi := ⟨_, _, _, _, _, _⟩) (v := _) rfl (by kernel_rfl) (by kernel_rfl) (by kernel_rfl) (fun _ _ _ h => h) (Or.inl ⟨by rfl, ?hy0⟩) hS ?rest0
    case hy0 => (intro wz hSw; (try dsimp only at hSw); go_simp; try with_reducible rfl)
    try simp only [Act.put, List.setIfInBounds_toArray, List.set_cons_zero, List.set_cons_succ]
    refine' wpAnyH_take (i := 1) (oi := ⟨_, _, _, _, _, _⟩) (v := _) rfl (by kernel_rfl) (by kernel_rfl) (by kernel_rfl) (fun _ _ _ h => h) (Or.inl ⟨by rfl, ?hy1⟩) hS ?rest1
    case hy1 => (intro wz hSw; (try dsimp only at hSw); go_simp; try with_reducible rfl)
    try simp only [Act.put, List.setIfInBounds_toArray, List.set_cons_zero, List.set_cons_succ]
    refine' wpAnyH_take (i := 2) (oi := ⟨_, _, _, _, _, _⟩) (v := _) rfl (by kernel_rfl) (by kernel_rfl) (by kernel_rfl) (fun _ _ _ h => h) (Or.inl ⟨by rfl, ?hy2⟩) hS ?rest2
    case hy2 => (intro wz hSw; (try dsimp only at hSw); go_simp; try with_reducible rfl)
    try simp only [Act.put, List.setIfInBounds_toArray, List.set_cons_zero, List.set_cons_succ]
    refine' wpAnyH_take (i := 5) (oi := ⟨_, _, _, _, _, _⟩) (v := _) rfl (by kernel_rfl) (by kernel_rfl) (by kernel_rfl) (fun _ _ _ h => h) (Or.inl ⟨by rfl, ?hy5⟩) hS ?rest5
    case hy5 => (intro wz hSw; (try dsimp only at hSw); go_simp; try with_reducible rfl)
    try simp only [Act.put, List.setIfInBounds_toArray, List.set_cons_zero, List.set_cons_succ]
    refine wpAnyH_ready (rs := [3]) (by kernel_rfl) (by simp) (AllReadyH.cons rfl (fun K hK => ?_) AllReadyH.nil)
    go_simp
    go_at_call 11
    refine (hours.out _).mono ?_
    rintro e w_3 ⟨rfl, q_3⟩
    replace hrl := Lib.hid (ri_below hrl.out q_3)
    replace bq := Lib.hid (below_on bq.out q_3)
    go_wp2_with fail
    refine hK.out _ _ (heldB4 q_3 hS) (fun hSn => ?_)
    clear hS
    have hS := hSn
    clear hSn
    clear hK K
    try simp only [Act.put, List.setIfInBounds_toArray, List.set_cons_zero, List.set_cons_succ]
    clear q_3
    refine wpAnyH_ready (rs := [4]) (by kernel_rfl) (by simp) (AllReadyH.cons rfl (fun K hK => ?_) AllReadyH.nil)
    go_simp
    go_at_call 10
    refine (hsane.out _).mono ?_
    rintro e w_4 ⟨rfl, q_4⟩
    replace hrl := Lib.hid (ri_below hrl.out q_4)
    replace bq := Lib.hid (below_on bq.out q_4)
    go_wp2_with fail
    refine hK.out _ _ (heldB4 q_4 hS) (fun hSn => ?_)
    clear hS
    have hS := hSn
    clear hSn
    clear hK K
    try simp only [Act.put, List.setIfInBounds_toArray, List.set_cons_zero, List.set_cons_succ]
    clear q_4
    refine wpAnyH_ready (rs := [6]) (by kernel_rfl) (by simp) (AllReadyH.cons rfl (fun K hK => ?_) AllReadyH.nil)
    go_simp
    go_at_call 12
    refine (rsane.out _).mono ?_
    rintro e w_6 ⟨rfl, q_6⟩
    replace hrl := Lib.hid (ri_below hrl.out q_6)
    replace bq := Lib.hid (below_on bq.out q_6)
    go_wp2_with fail
    refine hK.out _ _ (heldB4 q_6 hS) (fun hSn => ?_)
    clear hS
    have hS := hSn
    clear hSn
    clear hK K
    try simp only [Act.put, List.setIfInBounds_toArray, List.set_cons_zero, List.set_cons_succ]
    clear q_6
    refine' wpAnyH_take (i := 7) (oi := ⟨_, _, _, _, _, _⟩) (v := _) rfl (by kernel_rfl) (by kernel_rfl) (by kernel_rfl) (fun _ _ _ h => h) (Or.inl ⟨by rfl, ?hy7⟩) hS ?rest7
    case hy7 => (intro wz hSw; (try dsimp only at hSw); go_simp; try with_reducible rfl)
    try simp only [Act.put, List.setIfInBounds_toArray, List.set_cons_zero, List.set_cons_succ]
    try simp only [hcc]
    refine' wpAnyH_take (i := 8) (oi := ⟨_, _, _, _, _, _⟩) (v := _) rfl (by kernel_rfl) (by kernel_rfl) (by kernel_rfl) (fun _ _ _ h => h) (Or.inl ⟨by rfl, ?hy8⟩) hS ?rest8
    case hy8 => (intro wz hSw; (try dsimp only at hSw); go_simp; try with_reducible rfl)
    try simp only [Act.put, List.setIfInBounds_toArray, List.set_cons_zero, List.set_cons_succ]
    refine' wpAnyH_take (i := 9) (oi := ⟨_, _, _, _, _, _⟩) (v := _) rfl (by kernel_rfl) (by kernel_rfl) (by kernel_rfl) (fun _ _ _ h => h) (Or.inl ⟨by rfl, ?hy9⟩) hS ?rest9
    case hy9 => (intro wz hSw; (try dsimp only at hSw); go_simp; try with_reducible rfl)
    try simp only [Act.put, List.setIfInBounds_toArray, List.set_cons_zero, List.set_cons_succ]
    refine' wpAnyH_take (i := 10) (oi := ⟨_, _, _, _, _, _⟩) (v := _) rfl (by kernel_rfl) (by kernel_rfl) (by kernel_rfl) (fun _ _ _ h => h) (Or.inl ⟨by rfl, ?hy10⟩) hS ?rest10
    case hy10 => (intro wz hSw; (try dsimp only at hSw); go_simp; try with_reducible rfl)
    try simp only [Act.put, List.setIfInBounds_toArray, List.set_cons_zero, List.set_cons_succ]
    refine' wpAnyH_take (i := 12) (oi := ⟨_, _, _, _, _, _⟩) (v := _) rfl (by kernel_rfl) (by kernel_rfl) (by kernel_rfl) (fun _ _ _ h => h) (Or.inl ⟨by rfl, ?hy12⟩) hS ?rest12
    case hy12 => (intro wz hSw; (try dsimp only at hSw); go_simp; try with_reducible rfl)
    try simp only [Act.put, List.setIfInBounds_toArray, List.set_cons_zero, List.set_cons_succ]
    refine' wpAnyH_take (i := 14) (oi := ⟨_, _, _, _, _, _⟩) (v := _) rfl (by kernel_rfl) (by kernel_rfl) (by kernel_rfl) (fun _ _ _ h => h) (Or.inl ⟨by rfl, ?hy14⟩) hS ?rest14
    case hy14 => (intro wz hSw; (try dsimp only at hSw); go_simp; try with_reducible rfl)
    try simp only [Act.put, List.setIfInBounds_toArray, List.set_cons_zero, List.set_cons_succ]
    refine' wpAnyH_take (i := 15) (oi := ⟨_, _, _, _, _, _⟩) (v := _) rfl (by kernel_rfl) (by kernel_rfl) (by kernel_rfl) (fun _ _ _ h => h) (Or.inl ⟨by rfl, ?hy15⟩) hS ?rest15
    case hy15 => (intro wz hSw; (try dsimp only at hSw); go_simp; try with_reducible rfl)
    try simp only [Act.put, List.setIfInBounds_toArray, List.set_cons_zero, List.set_cons_succ]
    refine wpAnyH_ready (rs := [11]) (by kernel_rfl) (by simp) (AllReadyH.cons rfl (fun K hK => ?_) AllReadyH.nil)
    go_simp
    go_at_call 11
    refine (hours.out _).mono ?_
    rintro e w_11 ⟨rfl, q_11⟩
    replace hrl := Lib.hid (ri_below hrl.out q_11)
    replace bq := Lib.hid (below_on bq.out q_11)
    go_wp2_with fail
    refine hK.out _ _ (heldB4 q_11 hS) (fun hSn => ?_)
    clear hS
    have hS := hSn
    clear hSn
    clear hK K
    try simp only [Act.put, List.setIfInBounds_toArray, List.set_cons_zero, List.set_cons_succ]
    clear q_11
    refine wpAnyH_ready (rs := [13]) (by kernel_rfl) (by simp) (AllReadyH.cons rfl (fun K hK => ?_) AllReadyH.nil)
    go_simp
    go_at_call 13
    refine (hends.out _).mono ?_
    rintro e w_13 ⟨rfl, q_13⟩
    replace hrl := Lib.hid (ri_below hrl.out q_13)
    replace bq := Lib.hid (below_on bq.out q_13)
    go_wp2_with fail
    refine hK.out _ _ (heldB4 q_13 hS) (fun hSn => ?_)
    clear hS
    have hS := hSn
    clear hSn
    clear hK K
    try simp only [Act.put, List.setIfInBounds_toArray, List.set_cons_zero, List.set_cons_succ]
    clear q_13
    refine wpAnyH_ready (rs := [16]) (by kernel_rfl) (by simp) (AllReadyH.cons rfl (fun K hK => ?_) AllReadyH.nil)
    go_simp
    go_at_call 14
    refine (rends.out _).mono ?_
    rintro e w_16 ⟨rfl, q_16⟩
    replace hrl := Lib.hid (ri_below hrl.out q_16)
    replace bq := Lib.hid (below_on bq.out q_16)
    go_wp2_with fail
    refine hK.out _ _ (heldB4 q_16 hS) (fun hSn => ?_)
    clear hS
    have hS := hSn
    clear hSn
    clear hK K
    try simp only [Act.put, List.setIfInBounds_toArray, List.set_cons_zero, List.set_cons_succ]
    clear q_16
    refine' wpAnyH_take (i := 17) (oi := ⟨_, _, _, _, _, _⟩) (v := _) rfl (by kernel_rfl) (by kernel_rfl) (by kernel_rfl) (fun _ _ _ h => h) (Or.inl ⟨by rfl, ?hy17⟩) hS ?rest17
    case hy17 => (intro wz hSw; (try dsimp only at hSw); go_simp; try with_reducible rfl)
    try simp only [Act.put, List.setIfInBounds_toArray, List.set_cons_zero, List.set_cons_succ]
    try simp only [hdd]
    refine' wpAnyH_take (i := 18) (oi := ⟨_, _, _, _, _, _⟩) (v := _) rfl (by kernel_rfl) (by kernel_rfl) (by kernel_rfl) (fun _ _ _ h => h) (Or.inl ⟨by rfl, ?hy18⟩) hS ?rest18
    case hy18 => (intro wz hSw; (try dsimp only at hSw); go_simp; try with_reducible rfl)
    try simp only [Act.put, List.setIfInBounds_toArray, List.set_cons_zero, List.set_cons_succ]
    refine' wpAnyH_take (i := 19) (oi := ⟨_, _, _, _, _, _⟩) (v := _) rfl (by kernel_rfl) (by kernel_rfl) (by kernel_rfl) (fun _ _ _ h => h) (Or.inl ⟨by rfl, ?hy19⟩) hS ?rest19
    case hy19 => (intro wz hSw; (try dsimp only at hSw); go_simp; try with_reducible rfl)
    try simp only [Act.put, List.setIfInBounds_toArray, List.set_cons_zero, List.set_cons_succ]
    refine' wpAnyH_take (i := 20) (oi := ⟨_, _, _, _, _, _⟩) (v := _) rfl (by kernel_rfl) (by kernel_rfl) (by kernel_rfl) (fun _ _ _ h => h) (Or.inl ⟨by rfl, ?hy20⟩) hS ?rest20
    case hy20 => (intro wz hSw; (try dsimp only at hSw); go_simp; try with_reducible rfl)
    try simp only [Act.put, List.setIfInBounds_toArray, List.set_cons_zero, List.set_cons_succ]
    refine' wpAnyH_take (i := 22) (oi := ⟨_, _, _, _, _, _⟩) (v := _) rfl (by kernel_rfl) (by kernel_rfl) (by kernel_rfl) (fun _ _ _ h => h) (Or.inl ⟨by rfl, ?hy22⟩) hS ?rest22
    case hy22 => (intro wz hSw; (try dsimp only at hSw); go_simp; try with_reducible rfl)
    try simp only [Act.put, List.setIfInBounds_toArray, List.set_cons_zero, List.set_cons_succ]
    refine' wpAnyH_take (i := 25) (oi := ⟨_, _, _, _, _, _⟩) (v := _) rfl (by kernel_rfl) (by kernel_rfl) (by kernel_rfl) (fun _ _ _ h => h) (Or.inl ⟨by rfl, ?hy25⟩) hS ?rest25
    case hy25 => (intro wz hSw; (try dsimp only at hSw); go_simp; try with_reducible rfl)
    try simp only [Act.put, List.setIfInBounds_toArray, List.set_cons_zero, List.set_cons_succ]
    refine' wpAnyH_take (i := 26) (oi := ⟨_, _, _, _, _, _⟩) (v := _) rfl (by kernel_rfl) (by kernel_rfl) (by kernel_rfl) (fun _ _ _ h => h) (Or.inl ⟨by rfl, ?hy26⟩) hS ?rest26
    case hy26 => (intro wz hSw; (try dsimp only at hSw); go_simp; try with_reducible rfl)
    try simp only [Act.put, List.setIfInBounds_toArray, List.set_cons_zero, List.set_cons_succ]
    refine wpAnyH_ready (rs := [21]) (by kernel_rfl) (by simp) (AllReadyH.cons rfl (fun K hK => ?_) AllReadyH.nil)
    go_simp
    go_at_call 11
    refine (hours.out _).mono ?_
    rintro e w_21 ⟨rfl, q_21⟩
    replace hrl := Lib.hid (ri_below hrl.out q_21)
    replace bq := Lib.hid (below_on bq.out q_21)
    go_wp2_with fail
    refine hK.out _ _ (heldB4 q_21 hS) (fun hSn => ?_)
    clear hS
    have hS := hSn
    clear hSn
    clear hK K
    try simp only [Act.put, List.setIfInBounds_toArray, List.set_cons_zero, List.set_cons_succ]
    clear q_21
    refine wpAnyH_ready (rs := [23]) (by kernel_rfl) (by simp) (AllReadyH.cons rfl (fun K hK => ?_) AllReadyH.nil)
    go_simp
    go_at_call 16
    refine (hnext.out _).mono ?_
    rintro e w_23 ⟨rfl, q_23⟩
    replace hrl := Lib.hid (ri_below hrl.out q_23)
    replace bq := Lib.hid (below_on bq.out q_23)
    go_wp2_with fail
    refine hK.out _ _ (heldB4 q_23 hS) (fun hSn => ?_)
    clear hS
    have hS := hSn
    clear hSn
    clear hK K
    try simp only [Act.put, List.setIfInBounds_toArray, List.set_cons_zero, List.set_cons_succ]
    clear q_23
    refine wpAnyH_ready (rs := [24]) (by kernel_rfl) (by simp) (AllReadyH.cons rfl (fun K hK => ?_) AllReadyH.nil)
    go_simp
    go_at_call 15
    refine (htheirs.out _).mono ?_
    rintro e w_24 ⟨rfl, q_24⟩
    replace hrl := Lib.hid (ri_below hrl.out q_24)
    replace bq := Lib.hid (below_on bq.out q_24)
    go_wp2_with fail
    refine hK.out _ _ (heldB4 q_24 hS) (fun hSn => ?_)
    clear hS
    have hS := hSn
    clear hSn
    clear hK K
    try simp only [Act.put, List.setIfInBounds_toArray, List.set_cons_zero, List.set_cons_succ]
    clear q_24
    refine wpAnyH_ready (rs := [27]) (by kernel_rfl) (by simp) (AllReadyH.cons rfl (fun K hK => ?_) AllReadyH.nil)
    go_simp
    go_at_call 17
    refine (rnext.out _).mono ?_
    rintro e w_27 ⟨rfl, q_27⟩
    replace hrl := Lib.hid (ri_below hrl.out q_27)
    replace bq := Lib.hid (below_on bq.out q_27)
    go_wp2_with fail
    refine hK.out _ _ (heldB4 q_27 hS) (fun hSn => ?_)
    clear hS
    have hS := hSn
    clear hSn
    clear hK K
    try simp only [Act.put, List.setIfInBounds_toArray, List.set_cons_zero, List.set_cons_succ]
    clear q_27
    refine' wpAnyH_take (i := 28) (oi := ⟨_, _, _, _, _, _⟩) (v := _) rfl (by kernel_rfl) (by kernel_rfl) (by kernel_rfl) (fun _ _ _ h => h) (Or.inl ⟨by rfl, ?hy28⟩) hS ?rest28
    case hy28 => (intro wz hSw; (try dsimp only at hSw); go_simp; try with_reducible rfl)
    try simp only [Act.put, List.setIfInBounds_toArray, List.set_cons_zero, List.set_cons_succ]
    try simp only [hgg, hpp, hoo, Bool.and_self]
    refine' wpAnyH_take (i := 29) (oi := ⟨_, _, _, _, _, _⟩) (v := _) rfl (by kernel_rfl) (by kernel_rfl) (by kernel_rfl) (fun _ _ _ h => h) (Or.inl ⟨by rfl, ?hy29⟩) hS ?rest29
    case hy29 => (intro wz hSw; (try dsimp only at hSw); go_simp; try with_reducible rfl)
    try simp only [Act.put, List.setIfInBounds_toArray, List.set_cons_zero, List.set_cons_succ]
    refine' wpAnyH_take (i := 30) (oi := ⟨_, _, _, _, _, _⟩) (v := _) rfl (by kernel_rfl) (by kernel_rfl) (by kernel_rfl) (fun _ _ _ h => h) (Or.inl ⟨by rfl, ?hy30⟩) hS ?rest30
    case hy30 => (intro wz hSw; (try dsimp only at hSw); go_simp; try with_reducible rfl)
    try simp only [Act.put, List.setIfInBounds_toArray, List.set_cons_zero, List.set_cons_succ]
    refine' wpAnyH_take (i := 31) (oi := ⟨_, _, _, _, _, _⟩) (v := _) rfl (by kernel_rfl) (by kernel_rfl) (by kernel_rfl) (fun _ _ _ h => h) (Or.inl ⟨by rfl, ?hy31⟩) hS ?rest31
    case hy31 => (intro wz hSw; (try dsimp only at hSw); go_simp; try with_reducible rfl)
    try simp only [Act.put, List.setIfInBounds_toArray, List.set_cons_zero, List.set_cons_succ]
    refine' wpAnyH_take (i := 33) (oi := ⟨_, _, _, _, _, _⟩) (v := _) rfl (by kernel_rfl) (by kernel_rfl) (by kernel_rfl) (fun _ _ _ h => h) (Or.inl ⟨by rfl, ?hy33⟩) hS ?rest33
    case hy33 => (intro wz hSw; (try dsimp only at hSw); go_simp; try with_reducible rfl)
    try simp only [Act.put, List.setIfInBounds_toArray, List.set_cons_zero, List.set_cons_succ]
    refine wpAnyH_ready (rs := [32]) (by kernel_rfl) (by simp) (AllReadyH.cons rfl (fun K hK => ?_) AllReadyH.nil)
    go_simp
    go_at_call 19
    refine (hcuts.out _ hrl.out).mono ?_
    rintro e w_32 ⟨v_a1, rfl, a1, q_32⟩
    replace hrl := Lib.hid (ri_below hrl.out q_32)
    replace a1 := Lib.hid (a1)
    replace bq := Lib.hid (below_on bq.out q_32)
    go_wp2_with fail
    refine hK.out _ _ (heldB4 q_32 hS) (fun hSn => ?_)
    clear hS
    have hS := hSn
    clear hSn
    clear hK K
    try simp only [Act.put, List.setIfInBounds_toArray, List.set_cons_zero, List.set_cons_succ]
    clear q_32
    refine wpAnyH_ready (rs := [34]) (by kernel_rfl) (by simp) (AllReadyH.cons rfl (fun K hK => ?_) AllReadyH.nil)
    go_simp
    go_at_call 20
    refine (rcuts.out _ hrl.out).mono ?_
    rintro e w_34 ⟨v_a2, rfl, a2, q_34⟩
    replace hrl := Lib.hid (ri_below hrl.out q_34)
    replace a1 := Lib.hid (rt_below a1.out q_34)
    replace a2 := Lib.hid (rt_of_own a2)
    replace bq := Lib.hid (below_on bq.out q_34)
    go_wp2_with fail
    refine hK.out _ _ (heldB4 q_34 hS) (fun hSn => ?_)
    clear hS
    have hS := hSn
    clear hSn
    clear hK K
    try simp only [Act.put, List.setIfInBounds_toArray, List.set_cons_zero, List.set_cons_succ]
    clear q_34
    refine wpAnyH_ready (rs := [35]) (by kernel_rfl) (by simp) (AllReadyH.cons rfl (fun K hK => ?_) AllReadyH.nil)
    go_simp
    go_at_call 18
    refine (same_selfT _ _ A _ (by omega) a1.out a2.out).mono ?_
    rintro e w_35 ⟨rfl, q_35⟩
    replace hrl := Lib.hid (ri_below hrl.out q_35)
    replace a1 := Lib.hid (rt_below a1.out q_35)
    replace a2 := Lib.hid (rt_below a2.out q_35)
    replace bq := Lib.hid (below_on bq.out q_35)
    go_wp2_with fail
    refine hK.out _ _ (heldB4 q_35 hS) (fun hSn => ?_)
    clear hS
    have hS := hSn
    clear hSn
    clear hK K
    try simp only [Act.put, List.setIfInBounds_toArray, List.set_cons_zero, List.set_cons_succ]
    clear q_35
    refine' wpAnyH_take (i := 36) (oi := ⟨_, _, _, _, _, _⟩) (v := _) rfl (by kernel_rfl) (by kernel_rfl) (by kernel_rfl) (fun _ _ _ h => h) (Or.inl ⟨by rfl, ?hy36⟩) hS ?rest36
    case hy36 => (intro wz hSw; (try dsimp only at hSw); go_simp; try with_reducible rfl)
    try simp only [Act.put, List.setIfInBounds_toArray, List.set_cons_zero, List.set_cons_succ]
    refine' wpAnyH_take (i := 37) (oi := ⟨_, _, _, _, _, _⟩) (v := _) rfl (by kernel_rfl) (by kernel_rfl) (by kernel_rfl) (fun _ _ _ h => h) (Or.inl ⟨by rfl, ?hy37⟩) hS ?rest37
    case hy37 => (intro wz hSw; (try dsimp only at hSw); go_simp; try with_reducible rfl)
    try simp only [Act.put, List.setIfInBounds_toArray, List.set_cons_zero, List.set_cons_succ]
    refine wpAnyH_done (by kernel_rfl) ?_ _
    clear hS
    go_simp
    go_wp2_with fail
    go_ret
    exact ⟨rfl, bq.out⟩
  · have hl' : decide (200 < l.length) = true := decide_eq_true (by omega)
    have hl2 : (200 : Int) < (l.length : Int) := by omega
    clear hS hE hN hC
    have b0 := Lib.hid (below_new w (.cells #[.bool s.on, .int .i64 s.kind, .bool s.pict, .bool s.odd] 23))
    unfold csV
    go_enter Try.func3, Try.ntmps3
    go_wp2_with fail
    refine (hawake.out _).mono ?_
    rintro e w1 ⟨rfl, q1⟩
    have b1 := Lib.hid (below_on b0.out q1)
    clear q1 b0
    go_wp2_with fail
    go_ret
    exact ⟨rfl, b1.out⟩

end Go.Proofs.Ytodckdlanlgkeaa
