/- Layer 15: the walk of MachIs. -/
import Derived.Test.YtiidjkhkcckmkaaGreatDoorMaRP
import Derived.Test.YtiidjkhkcckmkaaGreatDoorMaW0
import Derived.Deep.DeepCutAuto
namespace Go.Proofs.YtiidjkhkcckmkaaGreatDoor
set_option linter.unusedSimpArgs false
set_option linter.unusedVariables false
open Go.RowKit Go.Lib
open Mch (MS)
theorem Mch.small_few5 {m : MS} (h : fewB m.d.length m.n.length m.g.length m.c.length = true) : Mch.Small m := by
  unfold fewB at h
  simp only [Bool.and_eq_true, decide_eq_true_eq] at h
  exact ⟨by omega, by omega, by omega, by omega⟩
theorem Mch.feeds_told (m : MS) (l : List Int) : (Mch.feedsM m l).2.length ≤ 140 * l.length := by
  induction l generalizing m with
  | nil => simp [Mch.feedsM]
  | cons x t ih =>
    have h1 := Mch.feed_told m x
    have h2 := ih (Mch.feedM m x).1
    simp only [Mch.feedsM, List.length_append, List.length_cons]
    omega
theorem Mch.all_len (k : Int) (l : List Int) : (Mch.allM k l).length ≤ 140 * l.length + 33 := by
  have h1 := Mch.feeds_told (Mch.newM k) l
  have h2 := (Mch.end_told (Mch.feedsM (Mch.newM k) l).1).1
  unfold Mch.allM
  rw [List.length_append]
  omega
set_option maxHeartbeats 25600000 in
set_option maxRecDepth 100000 in
theorem machIs_walk (hN0 : NewC15) (hS0 : SaneC15) (hF0 : FeedC15) (hE0 : EndC15) (hK0 : CostC15) (hA0 : AllC15) (v : Value) (m : MS) (x kind : Int) (vl : Value) (l : List Int) (w : World) (hT : Tabs w) (hv : RM w v m) (hx : I64 x) (hkd : I64 kind) (hl : RI w vl l ∧ WfI l) :
    Calls Tryz.prog 3 #[v, .int .i64 x, .int .i64 kind, vl] w fun e w' => e = .returned (.bool true) ∧ Below w.heap.size w w' := by
  have hawake := Lib.hid (fun W h => awake15 hN0 hS0 hF0 hK0 hA0 W h)
  obtain ⟨rl, hwl⟩ := hl
  obtain ⟨pl, cl, rfl⟩ := ri_form rl
  obtain ⟨pn, cn, pg, cg, pc, cc, rfl⟩ := rm_form hv
  obtain ⟨S, hS⟩ : ∃ S : ByteArray, (⟨m.d.toArray⟩ : ByteArray) = S := ⟨_, rfl⟩
  have hSz : S.size = m.d.length := by rw [← hS]; simp [ByteArray.size]
  rw [hS] at hv ⊢
  have hours := fun W => ours15_any m.kind S pn m.n.length cn pg m.g.length cg m.s.on m.s.kind m.s.pict m.s.odd pc m.c.length cc W
  have hfew := fun W => few15_any m.kind S pn m.n.length cn pg m.g.length cg m.s.on m.s.kind m.s.pict m.s.odd pc m.c.length cc W
  have hth := fun k S pn n cn pg g cg on kd pi od pc c cc W => theirs15_any k S pn n cn pg g cg on kd pi od pc c cc W
  rw [hSz] at hfew
  have rs := hv
  unfold cellsM at hours hfew hth rs ⊢
  by_cases hfw : fewB m.d.length m.n.length m.g.length m.c.length = true ∧ l.length ≤ 60
  · obtain ⟨hfb, hl60⟩ := hfw
    have hsm := Mch.small_few5 hfb
    rw [hfb] at hfew
    have hfd := fun V W t h => hF0 V m x W t hsm h hx
    have hfr := fun V W h => rfeed15_any V m x W hsm h hx
    have hen := fun V W t h => hE0 V m W t hsm h
    have her := fun V W h => rend15_any V m W hsm h
    have hsq := Mch.small_sane (Mch.feed_sane m x).1
    have hse := Mch.small_sane (Mch.end_told m).2.1
    have hlq := Mch.feed_told m x
    have hle := (Mch.end_told m).1
    obtain ⟨q, hq⟩ : ∃ q, Mch.feedM m x = q := ⟨_, rfl⟩
    rw [hq] at hfd hfr hsq hlq
    obtain ⟨q', hq'⟩ : ∃ q', Mch.endM m = q' := ⟨_, rfl⟩
    rw [hq'] at hen her hse hle
    have ht1 : ¬ (60 : Int) < (l.length : Int) := by omega
    unfold FedM at hfd hfr hen her
    have hnw := fun W => hN0 kind W hkd
    have hrn := fun W => rnew15_any kind W
    have hsk := Mch.small_sane (Mch.new_sane kind)
    have hsc := fun V W t h => hS0 V m W t hsm h
    have hrs := fun V W h => rsane15_any V m W hsm h
    have hcc := fun V W t h => hK0 V m W t hsm h
    have hrc := fun V W h => rcost15_any V m W hsm h
    have hac := fun V W t h => hA0 kind V l W t (by omega) h hwl hkd
    have hrl := fun V W h => rall15_any kind V l W (by omega) h hwl
    have hAl := Mch.all_len kind l
    have hRK : ∀ W, RM W (.agg (bare9 (if 0 ≤ kind ∧ kind ≤ 4 then kind else 0))) (Mch.newM kind) := fun W => ⟨nilV, nilV, nilV, rfl, ri_nil15 _, ri_nil15 _, ri_nil15 _⟩
    obtain ⟨nk, hnk⟩ : ∃ nk, (if 0 ≤ kind ∧ kind ≤ 4 then kind else 0) = nk := ⟨_, rfl⟩
    rw [hnk] at hrn hRK
    obtain ⟨KM, hKM⟩ : ∃ KM, Mch.newM kind = KM := ⟨_, rfl⟩
    rw [hKM] at hnw hsk hRK
    obtain ⟨A, hA⟩ : ∃ A, Mch.allM kind l = A := ⟨_, rfl⟩
    rw [hA] at hac hrl hAl
    obtain ⟨B, hB⟩ : ∃ B, Mch.saneM m = B := ⟨_, rfl⟩
    rw [hB] at hsc hrs
    obtain ⟨N, hN⟩ : ∃ N, Mch.costM m = N := ⟨_, rfl⟩
    rw [hN] at hcc hrc
    unfold ToldM at hnw
    unfold Told at hac hrl
    have hBB : (B == B) = true := by simp
    have hNN : (((N : Nat) : Int) == ((N : Nat) : Int)) = true := by simp
    replace hnw := Lib.hid hnw
    replace hrn := Lib.hid hrn
    replace hsk := Lib.hid hsk
    replace hsc := Lib.hid hsc
    replace hrs := Lib.hid hrs
    replace hcc := Lib.hid hcc
    replace hrc := Lib.hid hrc
    replace hac := Lib.hid hac
    replace hrl := Lib.hid hrl
    replace hRK := Lib.hid hRK
    replace hAl := Lib.hid (show A.length ≤ 100000 by omega)
    clear hnk hKM hA hB hN
    replace hlq := Lib.hid (show q.2.length ≤ 100000 by omega)
    replace hle := Lib.hid (show q'.2.length ≤ 100000 by omega)
    replace hsq := Lib.hid hsq
    replace hse := Lib.hid hse
    replace hfd := Lib.hid hfd
    replace hfr := Lib.hid hfr
    replace hen := Lib.hid hen
    replace her := Lib.hid her
    replace hth := Lib.hid hth
    replace hours := Lib.hid hours
    replace hfew := Lib.hid hfew
    replace hT := Lib.hid hT
    replace rs := Lib.hid rs
    replace rl := Lib.hid rl
    replace hwl := Lib.hid hwl
    have bq := Lib.hid (Below.refl w.heap.size w)
    clear hq hq' hfb hS hSz hv hN0 hS0 hF0 hE0 hK0 hA0 hsm
    go_enter Tryz.func3, Tryz.ntmps3
    replace hT := Lib.hid (tabs_next hT.out (below_new w (.cells #[.int .i64 m.kind, .string S, .slice pn m.n.length cn, .slice pg m.g.length cg, .bool m.s.on, .int .i64 m.s.kind, .bool m.s.pict, .bool m.s.odd, .slice pc m.c.length cc] 32)))
    replace rs := Lib.hid (rm_below rs.out (below_new w (.cells #[.int .i64 m.kind, .string S, .slice pn m.n.length cn, .slice pg m.g.length cg, .bool m.s.on, .int .i64 m.s.kind, .bool m.s.pict, .bool m.s.odd, .slice pc m.c.length cc] 32)))
    replace rl := Lib.hid (ri_below rl.out (below_new w (.cells #[.int .i64 m.kind, .string S, .slice pn m.n.length cn, .slice pg m.g.length cg, .bool m.s.on, .int .i64 m.s.kind, .bool m.s.pict, .bool m.s.odd, .slice pc m.c.length cc] 32)))
    replace bq := Lib.hid (below_on bq.out (below_new w (.cells #[.int .i64 m.kind, .string S, .slice pn m.n.length cn, .slice pg m.g.length cg, .bool m.s.on, .int .i64 m.s.kind, .bool m.s.pict, .bool m.s.odd, .slice pc m.c.length cc] 32)))
    have bs := Lib.hid (blk_new w #[.int .i64 m.kind, .string S, .slice pn m.n.length cn, .slice pg m.g.length cg, .bool m.s.on, .int .i64 m.s.kind, .bool m.s.pict, .bool m.s.odd, .slice pc m.c.length cc] 32)
    go_wp2_with fail
    refine (hawake.out (w.alloc (.cells #[.int .i64 m.kind, .string S, .slice pn m.n.length cn, .slice pg m.g.length cg, .bool m.s.on, .int .i64 m.s.kind, .bool m.s.pict, .bool m.s.odd, .slice pc m.c.length cc] 32)) hT.out).mono ?_
    rintro e w2 ⟨rfl, q2⟩
    replace hT := Lib.hid (tabs_next hT.out q2)
    replace rs := Lib.hid (rm_below rs.out q2)
    replace rl := Lib.hid (ri_below rl.out q2)
    replace bs := Lib.hid (blk_below bs.out q2)
    replace bq := Lib.hid (below_on bq.out q2)
    clear q2
    have bs_0 := blk_cell bs.out 0 _ rfl
    have bs_1 := blk_cell bs.out 1 _ rfl
    have bs_2 := blk_cell bs.out 2 _ rfl
    have bs_3 := blk_cell bs.out 3 _ rfl
    have bs_4 := blk_cell bs.out 4 _ rfl
    have bs_5 := blk_cell bs.out 5 _ rfl
    have bs_6 := blk_cell bs.out 6 _ rfl
    have bs_7 := blk_cell bs.out 7 _ rfl
    have bs_8 := blk_cell bs.out 8 _ rfl
    go_wp2_with fail
    refine (hfew.out w2).mono ?_
    rintro e w3 ⟨rfl, q3⟩
    clear bs_0 bs_1 bs_2 bs_3 bs_4 bs_5 bs_6 bs_7 bs_8
    replace hT := Lib.hid (tabs_next hT.out q3)
    replace rs := Lib.hid (rm_below rs.out q3)
    replace rl := Lib.hid (ri_below rl.out q3)
    replace bs := Lib.hid (blk_below bs.out q3)
    replace bq := Lib.hid (below_on bq.out q3)
    clear q3
    have bs_0 := blk_cell bs.out 0 _ rfl
    have bs_1 := blk_cell bs.out 1 _ rfl
    have bs_2 := blk_cell bs.out 2 _ rfl
    have bs_3 := blk_cell bs.out 3 _ rfl
    have bs_4 := blk_cell bs.out 4 _ rfl
    have bs_5 := blk_cell bs.out 5 _ rfl
    have bs_6 := blk_cell bs.out 6 _ rfl
    have bs_7 := blk_cell bs.out 7 _ rfl
    have bs_8 := blk_cell bs.out 8 _ rfl
    go_wp2_with fail
    refine (hours.out w3).mono ?_
    rintro e w4 ⟨rfl, q4⟩
    clear bs_0 bs_1 bs_2 bs_3 bs_4 bs_5 bs_6 bs_7 bs_8
    replace hT := Lib.hid (tabs_next hT.out q4)
    replace rs := Lib.hid (rm_below rs.out q4)
    replace rl := Lib.hid (ri_below rl.out q4)
    replace bs := Lib.hid (blk_below bs.out q4)
    replace bq := Lib.hid (below_on bq.out q4)
    clear q4
    go_wp2_with fail
    refine (hfd.out _ w4 hT.out rs.out).mono ?_
    rintro e w5 ⟨va, ua, rfl, ra, oa, _, q5⟩
    replace hT := Lib.hid (tabs_next hT.out q5)
    replace rs := Lib.hid (rm_below rs.out q5)
    replace rl := Lib.hid (ri_below rl.out q5)
    replace bs := Lib.hid (blk_below bs.out q5)
    replace bq := Lib.hid (below_on bq.out q5)
    obtain ⟨pan, can, pag, cag, pac, cac, rfl⟩ := rm_form ra
    unfold cellsM at ra ⊢
    obtain ⟨pao, cao, rfl⟩ := ri_form oa
    replace ra := Lib.hid ra
    replace oa := Lib.hid oa
    clear q5
    replace hT := Lib.hid (tabs_next hT.out (below_new w5 (.cells #[.int .i64 q.1.kind, .string ⟨q.1.d.toArray⟩, .slice pan q.1.n.length can, .slice pag q.1.g.length cag, .bool q.1.s.on, .int .i64 q.1.s.kind, .bool q.1.s.pict, .bool q.1.s.odd, .slice pac q.1.c.length cac] 41)))
    replace rs := Lib.hid (rm_below rs.out (below_new w5 (.cells #[.int .i64 q.1.kind, .string ⟨q.1.d.toArray⟩, .slice pan q.1.n.length can, .slice pag q.1.g.length cag, .bool q.1.s.on, .int .i64 q.1.s.kind, .bool q.1.s.pict, .bool q.1.s.odd, .slice pac q.1.c.length cac] 41)))
    replace rl := Lib.hid (ri_below rl.out (below_new w5 (.cells #[.int .i64 q.1.kind, .string ⟨q.1.d.toArray⟩, .slice pan q.1.n.length can, .slice pag q.1.g.length cag, .bool q.1.s.on, .int .i64 q.1.s.kind, .bool q.1.s.pict, .bool q.1.s.odd, .slice pac q.1.c.length cac] 41)))
    replace bs := Lib.hid (blk_below bs.out (below_new w5 (.cells #[.int .i64 q.1.kind, .string ⟨q.1.d.toArray⟩, .slice pan q.1.n.length can, .slice pag q.1.g.length cag, .bool q.1.s.on, .int .i64 q.1.s.kind, .bool q.1.s.pict, .bool q.1.s.odd, .slice pac q.1.c.length cac] 41)))
    replace ra := Lib.hid (rm_below ra.out (below_new w5 (.cells #[.int .i64 q.1.kind, .string ⟨q.1.d.toArray⟩, .slice pan q.1.n.length can, .slice pag q.1.g.length cag, .bool q.1.s.on, .int .i64 q.1.s.kind, .bool q.1.s.pict, .bool q.1.s.odd, .slice pac q.1.c.length cac] 41)))
    replace oa := Lib.hid (ri_below oa.out (below_new w5 (.cells #[.int .i64 q.1.kind, .string ⟨q.1.d.toArray⟩, .slice pan q.1.n.length can, .slice pag q.1.g.length cag, .bool q.1.s.on, .int .i64 q.1.s.kind, .bool q.1.s.pict, .bool q.1.s.odd, .slice pac q.1.c.length cac] 41)))
    replace bq := Lib.hid (below_on bq.out (below_new w5 (.cells #[.int .i64 q.1.kind, .string ⟨q.1.d.toArray⟩, .slice pan q.1.n.length can, .slice pag q.1.g.length cag, .bool q.1.s.on, .int .i64 q.1.s.kind, .bool q.1.s.pict, .bool q.1.s.odd, .slice pac q.1.c.length cac] 41)))
    have bt := Lib.hid (blk_new w5 #[.int .i64 q.1.kind, .string ⟨q.1.d.toArray⟩, .slice pan q.1.n.length can, .slice pag q.1.g.length cag, .bool q.1.s.on, .int .i64 q.1.s.kind, .bool q.1.s.pict, .bool q.1.s.odd, .slice pac q.1.c.length cac] 41)
    have bs_0 := blk_cell bs.out 0 _ rfl
    have bs_1 := blk_cell bs.out 1 _ rfl
    have bs_2 := blk_cell bs.out 2 _ rfl
    have bs_3 := blk_cell bs.out 3 _ rfl
    have bs_4 := blk_cell bs.out 4 _ rfl
    have bs_5 := blk_cell bs.out 5 _ rfl
    have bs_6 := blk_cell bs.out 6 _ rfl
    have bs_7 := blk_cell bs.out 7 _ rfl
    have bs_8 := blk_cell bs.out 8 _ rfl
    go_wp2_with fail
    refine (hfr.out _ (w5.alloc (.cells #[.int .i64 q.1.kind, .string ⟨q.1.d.toArray⟩, .slice pan q.1.n.length can, .slice pag q.1.g.length cag, .bool q.1.s.on, .int .i64 q.1.s.kind, .bool q.1.s.pict, .bool q.1.s.odd, .slice pac q.1.c.length cac] 41)) rs.out).mono ?_
    rintro e w6 ⟨vb, ub, rfl, rb, ob, _, q6⟩
    clear bs_0 bs_1 bs_2 bs_3 bs_4 bs_5 bs_6 bs_7 bs_8
    replace hT := Lib.hid (tabs_next hT.out q6)
    replace rs := Lib.hid (rm_below rs.out q6)
    replace rl := Lib.hid (ri_below rl.out q6)
    replace bs := Lib.hid (blk_below bs.out q6)
    replace ra := Lib.hid (rm_below ra.out q6)
    replace oa := Lib.hid (ri_below oa.out q6)
    replace bt := Lib.hid (blk_below bt.out q6)
    replace bq := Lib.hid (below_on bq.out q6)
    obtain ⟨pbn, cbn, pbg, cbg, pbc, cbc, rfl⟩ := rm_form rb
    unfold cellsM at rb ⊢
    obtain ⟨pbo, cbo, rfl⟩ := ri_form ob
    replace rb := Lib.hid rb
    replace ob := Lib.hid ob
    clear q6
    replace hT := Lib.hid (tabs_next hT.out (below_new w6 (.cells #[.int .i64 q.1.kind, .string ⟨q.1.d.toArray⟩, .slice pbn q.1.n.length cbn, .slice pbg q.1.g.length cbg, .bool q.1.s.on, .int .i64 q.1.s.kind, .bool q.1.s.pict, .bool q.1.s.odd, .slice pbc q.1.c.length cbc] 32)))
    replace rs := Lib.hid (rm_below rs.out (below_new w6 (.cells #[.int .i64 q.1.kind, .string ⟨q.1.d.toArray⟩, .slice pbn q.1.n.length cbn, .slice pbg q.1.g.length cbg, .bool q.1.s.on, .int .i64 q.1.s.kind, .bool q.1.s.pict, .bool q.1.s.odd, .slice pbc q.1.c.length cbc] 32)))
    replace rl := Lib.hid (ri_below rl.out (below_new w6 (.cells #[.int .i64 q.1.kind, .string ⟨q.1.d.toArray⟩, .slice pbn q.1.n.length cbn, .slice pbg q.1.g.length cbg, .bool q.1.s.on, .int .i64 q.1.s.kind, .bool q.1.s.pict, .bool q.1.s.odd, .slice pbc q.1.c.length cbc] 32)))
    replace bs := Lib.hid (blk_below bs.out (below_new w6 (.cells #[.int .i64 q.1.kind, .string ⟨q.1.d.toArray⟩, .slice pbn q.1.n.length cbn, .slice pbg q.1.g.length cbg, .bool q.1.s.on, .int .i64 q.1.s.kind, .bool q.1.s.pict, .bool q.1.s.odd, .slice pbc q.1.c.length cbc] 32)))
    replace ra := Lib.hid (rm_below ra.out (below_new w6 (.cells #[.int .i64 q.1.kind, .string ⟨q.1.d.toArray⟩, .slice pbn q.1.n.length cbn, .slice pbg q.1.g.length cbg, .bool q.1.s.on, .int .i64 q.1.s.kind, .bool q.1.s.pict, .bool q.1.s.odd, .slice pbc q.1.c.length cbc] 32)))
    replace oa := Lib.hid (ri_below oa.out (below_new w6 (.cells #[.int .i64 q.1.kind, .string ⟨q.1.d.toArray⟩, .slice pbn q.1.n.length cbn, .slice pbg q.1.g.length cbg, .bool q.1.s.on, .int .i64 q.1.s.kind, .bool q.1.s.pict, .bool q.1.s.odd, .slice pbc q.1.c.length cbc] 32)))
    replace bt := Lib.hid (blk_below bt.out (below_new w6 (.cells #[.int .i64 q.1.kind, .string ⟨q.1.d.toArray⟩, .slice pbn q.1.n.length cbn, .slice pbg q.1.g.length cbg, .bool q.1.s.on, .int .i64 q.1.s.kind, .bool q.1.s.pict, .bool q.1.s.odd, .slice pbc q.1.c.length cbc] 32)))
    replace rb := Lib.hid (rm_below rb.out (below_new w6 (.cells #[.int .i64 q.1.kind, .string ⟨q.1.d.toArray⟩, .slice pbn q.1.n.length cbn, .slice pbg q.1.g.length cbg, .bool q.1.s.on, .int .i64 q.1.s.kind, .bool q.1.s.pict, .bool q.1.s.odd, .slice pbc q.1.c.length cbc] 32)))
    replace ob := Lib.hid (ri_below ob.out (below_new w6 (.cells #[.int .i64 q.1.kind, .string ⟨q.1.d.toArray⟩, .slice pbn q.1.n.length cbn, .slice pbg q.1.g.length cbg, .bool q.1.s.on, .int .i64 q.1.s.kind, .bool q.1.s.pict, .bool q.1.s.odd, .slice pbc q.1.c.length cbc] 32)))
    replace bq := Lib.hid (below_on bq.out (below_new w6 (.cells #[.int .i64 q.1.kind, .string ⟨q.1.d.toArray⟩, .slice pbn q.1.n.length cbn, .slice pbg q.1.g.length cbg, .bool q.1.s.on, .int .i64 q.1.s.kind, .bool q.1.s.pict, .bool q.1.s.odd, .slice pbc q.1.c.length cbc] 32)))
    have bu := Lib.hid (blk_new w6 #[.int .i64 q.1.kind, .string ⟨q.1.d.toArray⟩, .slice pbn q.1.n.length cbn, .slice pbg q.1.g.length cbg, .bool q.1.s.on, .int .i64 q.1.s.kind, .bool q.1.s.pict, .bool q.1.s.odd, .slice pbc q.1.c.length cbc] 32)
    have bs_0 := blk_cell bs.out 0 _ rfl
    have bs_1 := blk_cell bs.out 1 _ rfl
    have bs_2 := blk_cell bs.out 2 _ rfl
    have bs_3 := blk_cell bs.out 3 _ rfl
    have bs_4 := blk_cell bs.out 4 _ rfl
    have bs_5 := blk_cell bs.out 5 _ rfl
    have bs_6 := blk_cell bs.out 6 _ rfl
    have bs_7 := blk_cell bs.out 7 _ rfl
    have bs_8 := blk_cell bs.out 8 _ rfl
    go_wp2_with fail
    refine (hours.out (w6.alloc (.cells #[.int .i64 q.1.kind, .string ⟨q.1.d.toArray⟩, .slice pbn q.1.n.length cbn, .slice pbg q.1.g.length cbg, .bool q.1.s.on, .int .i64 q.1.s.kind, .bool q.1.s.pict, .bool q.1.s.odd, .slice pbc q.1.c.length cbc] 32))).mono ?_
    rintro e w7 ⟨rfl, q7⟩
    clear bs_0 bs_1 bs_2 bs_3 bs_4 bs_5 bs_6 bs_7 bs_8
    replace hT := Lib.hid (tabs_next hT.out q7)
    replace rs := Lib.hid (rm_below rs.out q7)
    replace rl := Lib.hid (ri_below rl.out q7)
    replace bs := Lib.hid (blk_below bs.out q7)
    replace ra := Lib.hid (rm_below ra.out q7)
    replace oa := Lib.hid (ri_below oa.out q7)
    replace bt := Lib.hid (blk_below bt.out q7)
    replace rb := Lib.hid (rm_below rb.out q7)
    replace ob := Lib.hid (ri_below ob.out q7)
    replace bu := Lib.hid (blk_below bu.out q7)
    replace bq := Lib.hid (below_on bq.out q7)
    clear q7
    go_wp2_with fail
    refine (hen.out _ w7 hT.out rs.out).mono ?_
    rintro e w8 ⟨vc, uc, rfl, rc, oc, _, q8⟩
    replace hT := Lib.hid (tabs_next hT.out q8)
    replace rs := Lib.hid (rm_below rs.out q8)
    replace rl := Lib.hid (ri_below rl.out q8)
    replace bs := Lib.hid (blk_below bs.out q8)
    replace ra := Lib.hid (rm_below ra.out q8)
    replace oa := Lib.hid (ri_below oa.out q8)
    replace bt := Lib.hid (blk_below bt.out q8)
    replace rb := Lib.hid (rm_below rb.out q8)
    replace ob := Lib.hid (ri_below ob.out q8)
    replace bu := Lib.hid (blk_below bu.out q8)
    replace bq := Lib.hid (below_on bq.out q8)
    obtain ⟨pcn, ccn, pcg, ccg, pcc, ccc, rfl⟩ := rm_form rc
    unfold cellsM at rc ⊢
    obtain ⟨pco, cco, rfl⟩ := ri_form oc
    replace rc := Lib.hid rc
    replace oc := Lib.hid oc
    clear q8
    replace hT := Lib.hid (tabs_next hT.out (below_new w8 (.cells #[.int .i64 q'.1.kind, .string ⟨q'.1.d.toArray⟩, .slice pcn q'.1.n.length ccn, .slice pcg q'.1.g.length ccg, .bool q'.1.s.on, .int .i64 q'.1.s.kind, .bool q'.1.s.pict, .bool q'.1.s.odd, .slice pcc q'.1.c.length ccc] 41)))
    replace rs := Lib.hid (rm_below rs.out (below_new w8 (.cells #[.int .i64 q'.1.kind, .string ⟨q'.1.d.toArray⟩, .slice pcn q'.1.n.length ccn, .slice pcg q'.1.g.length ccg, .bool q'.1.s.on, .int .i64 q'.1.s.kind, .bool q'.1.s.pict, .bool q'.1.s.odd, .slice pcc q'.1.c.length ccc] 41)))
    replace rl := Lib.hid (ri_below rl.out (below_new w8 (.cells #[.int .i64 q'.1.kind, .string ⟨q'.1.d.toArray⟩, .slice pcn q'.1.n.length ccn, .slice pcg q'.1.g.length ccg, .bool q'.1.s.on, .int .i64 q'.1.s.kind, .bool q'.1.s.pict, .bool q'.1.s.odd, .slice pcc q'.1.c.length ccc] 41)))
    replace bs := Lib.hid (blk_below bs.out (below_new w8 (.cells #[.int .i64 q'.1.kind, .string ⟨q'.1.d.toArray⟩, .slice pcn q'.1.n.length ccn, .slice pcg q'.1.g.length ccg, .bool q'.1.s.on, .int .i64 q'.1.s.kind, .bool q'.1.s.pict, .bool q'.1.s.odd, .slice pcc q'.1.c.length ccc] 41)))
    replace ra := Lib.hid (rm_below ra.out (below_new w8 (.cells #[.int .i64 q'.1.kind, .string ⟨q'.1.d.toArray⟩, .slice pcn q'.1.n.length ccn, .slice pcg q'.1.g.length ccg, .bool q'.1.s.on, .int .i64 q'.1.s.kind, .bool q'.1.s.pict, .bool q'.1.s.odd, .slice pcc q'.1.c.length ccc] 41)))
    replace oa := Lib.hid (ri_below oa.out (below_new w8 (.cells #[.int .i64 q'.1.kind, .string ⟨q'.1.d.toArray⟩, .slice pcn q'.1.n.length ccn, .slice pcg q'.1.g.length ccg, .bool q'.1.s.on, .int .i64 q'.1.s.kind, .bool q'.1.s.pict, .bool q'.1.s.odd, .slice pcc q'.1.c.length ccc] 41)))
    replace bt := Lib.hid (blk_below bt.out (below_new w8 (.cells #[.int .i64 q'.1.kind, .string ⟨q'.1.d.toArray⟩, .slice pcn q'.1.n.length ccn, .slice pcg q'.1.g.length ccg, .bool q'.1.s.on, .int .i64 q'.1.s.kind, .bool q'.1.s.pict, .bool q'.1.s.odd, .slice pcc q'.1.c.length ccc] 41)))
    replace rb := Lib.hid (rm_below rb.out (below_new w8 (.cells #[.int .i64 q'.1.kind, .string ⟨q'.1.d.toArray⟩, .slice pcn q'.1.n.length ccn, .slice pcg q'.1.g.length ccg, .bool q'.1.s.on, .int .i64 q'.1.s.kind, .bool q'.1.s.pict, .bool q'.1.s.odd, .slice pcc q'.1.c.length ccc] 41)))
    replace ob := Lib.hid (ri_below ob.out (below_new w8 (.cells #[.int .i64 q'.1.kind, .string ⟨q'.1.d.toArray⟩, .slice pcn q'.1.n.length ccn, .slice pcg q'.1.g.length ccg, .bool q'.1.s.on, .int .i64 q'.1.s.kind, .bool q'.1.s.pict, .bool q'.1.s.odd, .slice pcc q'.1.c.length ccc] 41)))
    replace bu := Lib.hid (blk_below bu.out (below_new w8 (.cells #[.int .i64 q'.1.kind, .string ⟨q'.1.d.toArray⟩, .slice pcn q'.1.n.length ccn, .slice pcg q'.1.g.length ccg, .bool q'.1.s.on, .int .i64 q'.1.s.kind, .bool q'.1.s.pict, .bool q'.1.s.odd, .slice pcc q'.1.c.length ccc] 41)))
    replace rc := Lib.hid (rm_below rc.out (below_new w8 (.cells #[.int .i64 q'.1.kind, .string ⟨q'.1.d.toArray⟩, .slice pcn q'.1.n.length ccn, .slice pcg q'.1.g.length ccg, .bool q'.1.s.on, .int .i64 q'.1.s.kind, .bool q'.1.s.pict, .bool q'.1.s.odd, .slice pcc q'.1.c.length ccc] 41)))
    replace oc := Lib.hid (ri_below oc.out (below_new w8 (.cells #[.int .i64 q'.1.kind, .string ⟨q'.1.d.toArray⟩, .slice pcn q'.1.n.length ccn, .slice pcg q'.1.g.length ccg, .bool q'.1.s.on, .int .i64 q'.1.s.kind, .bool q'.1.s.pict, .bool q'.1.s.odd, .slice pcc q'.1.c.length ccc] 41)))
    replace bq := Lib.hid (below_on bq.out (below_new w8 (.cells #[.int .i64 q'.1.kind, .string ⟨q'.1.d.toArray⟩, .slice pcn q'.1.n.length ccn, .slice pcg q'.1.g.length ccg, .bool q'.1.s.on, .int .i64 q'.1.s.kind, .bool q'.1.s.pict, .bool q'.1.s.odd, .slice pcc q'.1.c.length ccc] 41)))
    have bv := Lib.hid (blk_new w8 #[.int .i64 q'.1.kind, .string ⟨q'.1.d.toArray⟩, .slice pcn q'.1.n.length ccn, .slice pcg q'.1.g.length ccg, .bool q'.1.s.on, .int .i64 q'.1.s.kind, .bool q'.1.s.pict, .bool q'.1.s.odd, .slice pcc q'.1.c.length ccc] 41)
    have bs_0 := blk_cell bs.out 0 _ rfl
    have bs_1 := blk_cell bs.out 1 _ rfl
    have bs_2 := blk_cell bs.out 2 _ rfl
    have bs_3 := blk_cell bs.out 3 _ rfl
    have bs_4 := blk_cell bs.out 4 _ rfl
    have bs_5 := blk_cell bs.out 5 _ rfl
    have bs_6 := blk_cell bs.out 6 _ rfl
    have bs_7 := blk_cell bs.out 7 _ rfl
    have bs_8 := blk_cell bs.out 8 _ rfl
    go_wp2_with fail
    refine (her.out _ (w8.alloc (.cells #[.int .i64 q'.1.kind, .string ⟨q'.1.d.toArray⟩, .slice pcn q'.1.n.length ccn, .slice pcg q'.1.g.length ccg, .bool q'.1.s.on, .int .i64 q'.1.s.kind, .bool q'.1.s.pict, .bool q'.1.s.odd, .slice pcc q'.1.c.length ccc] 41)) rs.out).mono ?_
    rintro e w9 ⟨vd, ud, rfl, rd, od, _, q9⟩
    clear bs_0 bs_1 bs_2 bs_3 bs_4 bs_5 bs_6 bs_7 bs_8
    replace hT := Lib.hid (tabs_next hT.out q9)
    replace rs := Lib.hid (rm_below rs.out q9)
    replace rl := Lib.hid (ri_below rl.out q9)
    replace bs := Lib.hid (blk_below bs.out q9)
    replace ra := Lib.hid (rm_below ra.out q9)
    replace oa := Lib.hid (ri_below oa.out q9)
    replace bt := Lib.hid (blk_below bt.out q9)
    replace rb := Lib.hid (rm_below rb.out q9)
    replace ob := Lib.hid (ri_below ob.out q9)
    replace bu := Lib.hid (blk_below bu.out q9)
    replace rc := Lib.hid (rm_below rc.out q9)
    replace oc := Lib.hid (ri_below oc.out q9)
    replace bv := Lib.hid (blk_below bv.out q9)
    replace bq := Lib.hid (below_on bq.out q9)
    obtain ⟨pdn, cdn, pdg, cdg, pdc, cdc, rfl⟩ := rm_form rd
    unfold cellsM at rd ⊢
    obtain ⟨pdo, cdo, rfl⟩ := ri_form od
    replace rd := Lib.hid rd
    replace od := Lib.hid od
    clear q9
    replace hT := Lib.hid (tabs_next hT.out (below_new w9 (.cells #[.int .i64 q'.1.kind, .string ⟨q'.1.d.toArray⟩, .slice pdn q'.1.n.length cdn, .slice pdg q'.1.g.length cdg, .bool q'.1.s.on, .int .i64 q'.1.s.kind, .bool q'.1.s.pict, .bool q'.1.s.odd, .slice pdc q'.1.c.length cdc] 32)))
    replace rs := Lib.hid (rm_below rs.out (below_new w9 (.cells #[.int .i64 q'.1.kind, .string ⟨q'.1.d.toArray⟩, .slice pdn q'.1.n.length cdn, .slice pdg q'.1.g.length cdg, .bool q'.1.s.on, .int .i64 q'.1.s.kind, .bool q'.1.s.pict, .bool q'.1.s.odd, .slice pdc q'.1.c.length cdc] 32)))
    replace rl := Lib.hid (ri_below rl.out (below_new w9 (.cells #[.int .i64 q'.1.kind, .string ⟨q'.1.d.toArray⟩, .slice pdn q'.1.n.length cdn, .slice pdg q'.1.g.length cdg, .bool q'.1.s.on, .int .i64 q'.1.s.kind, .bool q'.1.s.pict, .bool q'.1.s.odd, .slice pdc q'.1.c.length cdc] 32)))
    replace bs := Lib.hid (blk_below bs.out (below_new w9 (.cells #[.int .i64 q'.1.kind, .string ⟨q'.1.d.toArray⟩, .slice pdn q'.1.n.length cdn, .slice pdg q'.1.g.length cdg, .bool q'.1.s.on, .int .i64 q'.1.s.kind, .bool q'.1.s.pict, .bool q'.1.s.odd, .slice pdc q'.1.c.length cdc] 32)))
    replace ra := Lib.hid (rm_below ra.out (below_new w9 (.cells #[.int .i64 q'.1.kind, .string ⟨q'.1.d.toArray⟩, .slice pdn q'.1.n.length cdn, .slice pdg q'.1.g.length cdg, .bool q'.1.s.on, .int .i64 q'.1.s.kind, .bool q'.1.s.pict, .bool q'.1.s.odd, .slice pdc q'.1.c.length cdc] 32)))
    replace oa := Lib.hid (ri_below oa.out (below_new w9 (.cells #[.int .i64 q'.1.kind, .string ⟨q'.1.d.toArray⟩, .slice pdn q'.1.n.length cdn, .slice pdg q'.1.g.length cdg, .bool q'.1.s.on, .int .i64 q'.1.s.kind, .bool q'.1.s.pict, .bool q'.1.s.odd, .slice pdc q'.1.c.length cdc] 32)))
    replace bt := Lib.hid (blk_below bt.out (below_new w9 (.cells #[.int .i64 q'.1.kind, .string ⟨q'.1.d.toArray⟩, .slice pdn q'.1.n.length cdn, .slice pdg q'.1.g.length cdg, .bool q'.1.s.on, .int .i64 q'.1.s.kind, .bool q'.1.s.pict, .bool q'.1.s.odd, .slice pdc q'.1.c.length cdc] 32)))
    replace rb := Lib.hid (rm_below rb.out (below_new w9 (.cells #[.int .i64 q'.1.kind, .string ⟨q'.1.d.toArray⟩, .slice pdn q'.1.n.length cdn, .slice pdg q'.1.g.length cdg, .bool q'.1.s.on, .int .i64 q'.1.s.kind, .bool q'.1.s.pict, .bool q'.1.s.odd, .slice pdc q'.1.c.length cdc] 32)))
    replace ob := Lib.hid (ri_below ob.out (below_new w9 (.cells #[.int .i64 q'.1.kind, .string ⟨q'.1.d.toArray⟩, .slice pdn q'.1.n.length cdn, .slice pdg q'.1.g.length cdg, .bool q'.1.s.on, .int .i64 q'.1.s.kind, .bool q'.1.s.pict, .bool q'.1.s.odd, .slice pdc q'.1.c.length cdc] 32)))
    replace bu := Lib.hid (blk_below bu.out (below_new w9 (.cells #[.int .i64 q'.1.kind, .string ⟨q'.1.d.toArray⟩, .slice pdn q'.1.n.length cdn, .slice pdg q'.1.g.length cdg, .bool q'.1.s.on, .int .i64 q'.1.s.kind, .bool q'.1.s.pict, .bool q'.1.s.odd, .slice pdc q'.1.c.length cdc] 32)))
    replace rc := Lib.hid (rm_below rc.out (below_new w9 (.cells #[.int .i64 q'.1.kind, .string ⟨q'.1.d.toArray⟩, .slice pdn q'.1.n.length cdn, .slice pdg q'.1.g.length cdg, .bool q'.1.s.on, .int .i64 q'.1.s.kind, .bool q'.1.s.pict, .bool q'.1.s.odd, .slice pdc q'.1.c.length cdc] 32)))
    replace oc := Lib.hid (ri_below oc.out (below_new w9 (.cells #[.int .i64 q'.1.kind, .string ⟨q'.1.d.toArray⟩, .slice pdn q'.1.n.length cdn, .slice pdg q'.1.g.length cdg, .bool q'.1.s.on, .int .i64 q'.1.s.kind, .bool q'.1.s.pict, .bool q'.1.s.odd, .slice pdc q'.1.c.length cdc] 32)))
    replace bv := Lib.hid (blk_below bv.out (below_new w9 (.cells #[.int .i64 q'.1.kind, .string ⟨q'.1.d.toArray⟩, .slice pdn q'.1.n.length cdn, .slice pdg q'.1.g.length cdg, .bool q'.1.s.on, .int .i64 q'.1.s.kind, .bool q'.1.s.pict, .bool q'.1.s.odd, .slice pdc q'.1.c.length cdc] 32)))
    replace rd := Lib.hid (rm_below rd.out (below_new w9 (.cells #[.int .i64 q'.1.kind, .string ⟨q'.1.d.toArray⟩, .slice pdn q'.1.n.length cdn, .slice pdg q'.1.g.length cdg, .bool q'.1.s.on, .int .i64 q'.1.s.kind, .bool q'.1.s.pict, .bool q'.1.s.odd, .slice pdc q'.1.c.length cdc] 32)))
    replace od := Lib.hid (ri_below od.out (below_new w9 (.cells #[.int .i64 q'.1.kind, .string ⟨q'.1.d.toArray⟩, .slice pdn q'.1.n.length cdn, .slice pdg q'.1.g.length cdg, .bool q'.1.s.on, .int .i64 q'.1.s.kind, .bool q'.1.s.pict, .bool q'.1.s.odd, .slice pdc q'.1.c.length cdc] 32)))
    replace bq := Lib.hid (below_on bq.out (below_new w9 (.cells #[.int .i64 q'.1.kind, .string ⟨q'.1.d.toArray⟩, .slice pdn q'.1.n.length cdn, .slice pdg q'.1.g.length cdg, .bool q'.1.s.on, .int .i64 q'.1.s.kind, .bool q'.1.s.pict, .bool q'.1.s.odd, .slice pdc q'.1.c.length cdc] 32)))
    have bw := Lib.hid (blk_new w9 #[.int .i64 q'.1.kind, .string ⟨q'.1.d.toArray⟩, .slice pdn q'.1.n.length cdn, .slice pdg q'.1.g.length cdg, .bool q'.1.s.on, .int .i64 q'.1.s.kind, .bool q'.1.s.pict, .bool q'.1.s.odd, .slice pdc q'.1.c.length cdc] 32)
    go_upto_region 8 with (fail)
    have kp : ∀ (W W' : World), Below W.heap.size W W' → (fun w' => w'.cell? ⟨w5.heap.size, 0, none⟩ = some (.int .i64 q.1.kind) ∧ w'.cell? ⟨w5.heap.size, 1, none⟩ = some (.string ⟨q.1.d.toArray⟩) ∧ w'.cell? ⟨w5.heap.size, 2, none⟩ = some (.slice pan q.1.n.length can) ∧ w'.cell? ⟨w5.heap.size, 3, none⟩ = some (.slice pag q.1.g.length cag) ∧ w'.cell? ⟨w5.heap.size, 4, none⟩ = some (.bool q.1.s.on) ∧ w'.cell? ⟨w5.heap.size, 5, none⟩ = some (.int .i64 q.1.s.kind) ∧ w'.cell? ⟨w5.heap.size, 6, none⟩ = some (.bool q.1.s.pict) ∧ w'.cell? ⟨w5.heap.size, 7, none⟩ = some (.bool q.1.s.odd) ∧ w'.cell? ⟨w5.heap.size, 8, none⟩ = some (.slice pac q.1.c.length cac) ∧ w'.cell? ⟨w6.heap.size, 0, none⟩ = some (.int .i64 q.1.kind) ∧ w'.cell? ⟨w6.heap.size, 1, none⟩ = some (.string ⟨q.1.d.toArray⟩) ∧ w'.cell? ⟨w6.heap.size, 2, none⟩ = some (.slice pbn q.1.n.length cbn) ∧ w'.cell? ⟨w6.heap.size, 3, none⟩ = some (.slice pbg q.1.g.length cbg) ∧ w'.cell? ⟨w6.heap.size, 4, none⟩ = some (.bool q.1.s.on) ∧ w'.cell? ⟨w6.heap.size, 5, none⟩ = some (.int .i64 q.1.s.kind) ∧ w'.cell? ⟨w6.heap.size, 6, none⟩ = some (.bool q.1.s.pict) ∧ w'.cell? ⟨w6.heap.size, 7, none⟩ = some (.bool q.1.s.odd) ∧ w'.cell? ⟨w6.heap.size, 8, none⟩ = some (.slice pbc q.1.c.length cbc) ∧ w'.cell? ⟨w8.heap.size, 0, none⟩ = some (.int .i64 q'.1.kind) ∧ w'.cell? ⟨w8.heap.size, 1, none⟩ = some (.string ⟨q'.1.d.toArray⟩) ∧ w'.cell? ⟨w8.heap.size, 2, none⟩ = some (.slice pcn q'.1.n.length ccn) ∧ w'.cell? ⟨w8.heap.size, 3, none⟩ = some (.slice pcg q'.1.g.length ccg) ∧ w'.cell? ⟨w8.heap.size, 4, none⟩ = some (.bool q'.1.s.on) ∧ w'.cell? ⟨w8.heap.size, 5, none⟩ = some (.int .i64 q'.1.s.kind) ∧ w'.cell? ⟨w8.heap.size, 6, none⟩ = some (.bool q'.1.s.pict) ∧ w'.cell? ⟨w8.heap.size, 7, none⟩ = some (.bool q'.1.s.odd) ∧ w'.cell? ⟨w8.heap.size, 8, none⟩ = some (.slice pcc q'.1.c.length ccc) ∧ w'.cell? ⟨w9.heap.size, 0, none⟩ = some (.int .i64 q'.1.kind) ∧ w'.cell? ⟨w9.heap.size, 1, none⟩ = some (.string ⟨q'.1.d.toArray⟩) ∧ w'.cell? ⟨w9.heap.size, 2, none⟩ = some (.slice pdn q'.1.n.length cdn) ∧ w'.cell? ⟨w9.heap.size, 3, none⟩ = some (.slice pdg q'.1.g.length cdg) ∧ w'.cell? ⟨w9.heap.size, 4, none⟩ = some (.bool q'.1.s.on) ∧ w'.cell? ⟨w9.heap.size, 5, none⟩ = some (.int .i64 q'.1.s.kind) ∧ w'.cell? ⟨w9.heap.size, 6, none⟩ = some (.bool q'.1.s.pict) ∧ w'.cell? ⟨w9.heap.size, 7, none⟩ = some (.bool q'.1.s.odd) ∧ w'.cell? ⟨w9.heap.size, 8, none⟩ = some (.slice pdc q'.1.c.length cdc)) W → (fun w' => w'.cell? ⟨w5.heap.size, 0, none⟩ = some (.int .i64 q.1.kind) ∧ w'.cell? ⟨w5.heap.size, 1, none⟩ = some (.string ⟨q.1.d.toArray⟩) ∧ w'.cell? ⟨w5.heap.size, 2, none⟩ = some (.slice pan q.1.n.length can) ∧ w'.cell? ⟨w5.heap.size, 3, none⟩ = some (.slice pag q.1.g.length cag) ∧ w'.cell? ⟨w5.heap.size, 4, none⟩ = some (.bool q.1.s.on) ∧ w'.cell? ⟨w5.heap.size, 5, none⟩ = some (.int .i64 q.1.s.kind) ∧ w'.cell? ⟨w5.heap.size, 6, none⟩ = some (.bool q.1.s.pict) ∧ w'.cell? ⟨w5.heap.size, 7, none⟩ = some (.bool q.1.s.odd) ∧ w'.cell? ⟨w5.heap.size, 8, none⟩ = some (.slice pac q.1.c.length cac) ∧ w'.cell? ⟨w6.heap.size, 0, none⟩ = some (.int .i64 q.1.kind) ∧ w'.cell? ⟨w6.heap.size, 1, none⟩ = some (.string ⟨q.1.d.toArray⟩) ∧ w'.cell? ⟨w6.heap.size, 2, none⟩ = some (.slice pbn q.1.n.length cbn) ∧ w'.cell? ⟨w6.heap.size, 3, none⟩ = some (.slice pbg q.1.g.length cbg) ∧ w'.cell? ⟨w6.heap.size, 4, none⟩ = some (.bool q.1.s.on) ∧ w'.cell? ⟨w6.heap.size, 5, none⟩ = some (.int .i64 q.1.s.kind) ∧ w'.cell? ⟨w6.heap.size, 6, none⟩ = some (.bool q.1.s.pict) ∧ w'.cell? ⟨w6.heap.size, 7, none⟩ = some (.bool q.1.s.odd) ∧ w'.cell? ⟨w6.heap.size, 8, none⟩ = some (.slice pbc q.1.c.length cbc) ∧ w'.cell? ⟨w8.heap.size, 0, none⟩ = some (.int .i64 q'.1.kind) ∧ w'.cell? ⟨w8.heap.size, 1, none⟩ = some (.string ⟨q'.1.d.toArray⟩) ∧ w'.cell? ⟨w8.heap.size, 2, none⟩ = some (.slice pcn q'.1.n.length ccn) ∧ w'.cell? ⟨w8.heap.size, 3, none⟩ = some (.slice pcg q'.1.g.length ccg) ∧ w'.cell? ⟨w8.heap.size, 4, none⟩ = some (.bool q'.1.s.on) ∧ w'.cell? ⟨w8.heap.size, 5, none⟩ = some (.int .i64 q'.1.s.kind) ∧ w'.cell? ⟨w8.heap.size, 6, none⟩ = some (.bool q'.1.s.pict) ∧ w'.cell? ⟨w8.heap.size, 7, none⟩ = some (.bool q'.1.s.odd) ∧ w'.cell? ⟨w8.heap.size, 8, none⟩ = some (.slice pcc q'.1.c.length ccc) ∧ w'.cell? ⟨w9.heap.size, 0, none⟩ = some (.int .i64 q'.1.kind) ∧ w'.cell? ⟨w9.heap.size, 1, none⟩ = some (.string ⟨q'.1.d.toArray⟩) ∧ w'.cell? ⟨w9.heap.size, 2, none⟩ = some (.slice pdn q'.1.n.length cdn) ∧ w'.cell? ⟨w9.heap.size, 3, none⟩ = some (.slice pdg q'.1.g.length cdg) ∧ w'.cell? ⟨w9.heap.size, 4, none⟩ = some (.bool q'.1.s.on) ∧ w'.cell? ⟨w9.heap.size, 5, none⟩ = some (.int .i64 q'.1.s.kind) ∧ w'.cell? ⟨w9.heap.size, 6, none⟩ = some (.bool q'.1.s.pict) ∧ w'.cell? ⟨w9.heap.size, 7, none⟩ = some (.bool q'.1.s.odd) ∧ w'.cell? ⟨w9.heap.size, 8, none⟩ = some (.slice pdc q'.1.c.length cdc)) W' := by
      rintro W W' hb ⟨h0, h1, h2, h3, h4, h5, h6, h7, h8, h9, h10, h11, h12, h13, h14, h15, h16, h17, h18, h19, h20, h21, h22, h23, h24, h25, h26, h27, h28, h29, h30, h31, h32, h33, h34, h35⟩
      exact ⟨(hb.cell (World.block_lt_of_cell? _ _ h0)).trans h0, (hb.cell (World.block_lt_of_cell? _ _ h1)).trans h1, (hb.cell (World.block_lt_of_cell? _ _ h2)).trans h2, (hb.cell (World.block_lt_of_cell? _ _ h3)).trans h3, (hb.cell (World.block_lt_of_cell? _ _ h4)).trans h4, (hb.cell (World.block_lt_of_cell? _ _ h5)).trans h5, (hb.cell (World.block_lt_of_cell? _ _ h6)).trans h6, (hb.cell (World.block_lt_of_cell? _ _ h7)).trans h7, (hb.cell (World.block_lt_of_cell? _ _ h8)).trans h8, (hb.cell (World.block_lt_of_cell? _ _ h9)).trans h9, (hb.cell (World.block_lt_of_cell? _ _ h10)).trans h10, (hb.cell (World.block_lt_of_cell? _ _ h11)).trans h11, (hb.cell (World.block_lt_of_cell? _ _ h12)).trans h12, (hb.cell (World.block_lt_of_cell? _ _ h13)).trans h13, (hb.cell (World.block_lt_of_cell? _ _ h14)).trans h14, (hb.cell (World.block_lt_of_cell? _ _ h15)).trans h15, (hb.cell (World.block_lt_of_cell? _ _ h16)).trans h16, (hb.cell (World.block_lt_of_cell? _ _ h17)).trans h17, (hb.cell (World.block_lt_of_cell? _ _ h18)).trans h18, (hb.cell (World.block_lt_of_cell? _ _ h19)).trans h19, (hb.cell (World.block_lt_of_cell? _ _ h20)).trans h20, (hb.cell (World.block_lt_of_cell? _ _ h21)).trans h21, (hb.cell (World.block_lt_of_cell? _ _ h22)).trans h22, (hb.cell (World.block_lt_of_cell? _ _ h23)).trans h23, (hb.cell (World.block_lt_of_cell? _ _ h24)).trans h24, (hb.cell (World.block_lt_of_cell? _ _ h25)).trans h25, (hb.cell (World.block_lt_of_cell? _ _ h26)).trans h26, (hb.cell (World.block_lt_of_cell? _ _ h27)).trans h27, (hb.cell (World.block_lt_of_cell? _ _ h28)).trans h28, (hb.cell (World.block_lt_of_cell? _ _ h29)).trans h29, (hb.cell (World.block_lt_of_cell? _ _ h30)).trans h30, (hb.cell (World.block_lt_of_cell? _ _ h31)).trans h31, (hb.cell (World.block_lt_of_cell? _ _ h32)).trans h32, (hb.cell (World.block_lt_of_cell? _ _ h33)).trans h33, (hb.cell (World.block_lt_of_cell? _ _ h34)).trans h34, (hb.cell (World.block_lt_of_cell? _ _ h35)).trans h35⟩
    replace kp := Lib.hid kp
    refine wp_region_held_drew (S := fun w' => w'.cell? ⟨w5.heap.size, 0, none⟩ = some (.int .i64 q.1.kind) ∧ w'.cell? ⟨w5.heap.size, 1, none⟩ = some (.string ⟨q.1.d.toArray⟩) ∧ w'.cell? ⟨w5.heap.size, 2, none⟩ = some (.slice pan q.1.n.length can) ∧ w'.cell? ⟨w5.heap.size, 3, none⟩ = some (.slice pag q.1.g.length cag) ∧ w'.cell? ⟨w5.heap.size, 4, none⟩ = some (.bool q.1.s.on) ∧ w'.cell? ⟨w5.heap.size, 5, none⟩ = some (.int .i64 q.1.s.kind) ∧ w'.cell? ⟨w5.heap.size, 6, none⟩ = some (.bool q.1.s.pict) ∧ w'.cell? ⟨w5.heap.size, 7, none⟩ = some (.bool q.1.s.odd) ∧ w'.cell? ⟨w5.heap.size, 8, none⟩ = some (.slice pac q.1.c.length cac) ∧ w'.cell? ⟨w6.heap.size, 0, none⟩ = some (.int .i64 q.1.kind) ∧ w'.cell? ⟨w6.heap.size, 1, none⟩ = some (.string ⟨q.1.d.toArray⟩) ∧ w'.cell? ⟨w6.heap.size, 2, none⟩ = some (.slice pbn q.1.n.length cbn) ∧ w'.cell? ⟨w6.heap.size, 3, none⟩ = some (.slice pbg q.1.g.length cbg) ∧ w'.cell? ⟨w6.heap.size, 4, none⟩ = some (.bool q.1.s.on) ∧ w'.cell? ⟨w6.heap.size, 5, none⟩ = some (.int .i64 q.1.s.kind) ∧ w'.cell? ⟨w6.heap.size, 6, none⟩ = some (.bool q.1.s.pict) ∧ w'.cell? ⟨w6.heap.size, 7, none⟩ = some (.bool q.1.s.odd) ∧ w'.cell? ⟨w6.heap.size, 8, none⟩ = some (.slice pbc q.1.c.length cbc) ∧ w'.cell? ⟨w8.heap.size, 0, none⟩ = some (.int .i64 q'.1.kind) ∧ w'.cell? ⟨w8.heap.size, 1, none⟩ = some (.string ⟨q'.1.d.toArray⟩) ∧ w'.cell? ⟨w8.heap.size, 2, none⟩ = some (.slice pcn q'.1.n.length ccn) ∧ w'.cell? ⟨w8.heap.size, 3, none⟩ = some (.slice pcg q'.1.g.length ccg) ∧ w'.cell? ⟨w8.heap.size, 4, none⟩ = some (.bool q'.1.s.on) ∧ w'.cell? ⟨w8.heap.size, 5, none⟩ = some (.int .i64 q'.1.s.kind) ∧ w'.cell? ⟨w8.heap.size, 6, none⟩ = some (.bool q'.1.s.pict) ∧ w'.cell? ⟨w8.heap.size, 7, none⟩ = some (.bool q'.1.s.odd) ∧ w'.cell? ⟨w8.heap.size, 8, none⟩ = some (.slice pcc q'.1.c.length ccc) ∧ w'.cell? ⟨w9.heap.size, 0, none⟩ = some (.int .i64 q'.1.kind) ∧ w'.cell? ⟨w9.heap.size, 1, none⟩ = some (.string ⟨q'.1.d.toArray⟩) ∧ w'.cell? ⟨w9.heap.size, 2, none⟩ = some (.slice pdn q'.1.n.length cdn) ∧ w'.cell? ⟨w9.heap.size, 3, none⟩ = some (.slice pdg q'.1.g.length cdg) ∧ w'.cell? ⟨w9.heap.size, 4, none⟩ = some (.bool q'.1.s.on) ∧ w'.cell? ⟨w9.heap.size, 5, none⟩ = some (.int .i64 q'.1.s.kind) ∧ w'.cell? ⟨w9.heap.size, 6, none⟩ = some (.bool q'.1.s.pict) ∧ w'.cell? ⟨w9.heap.size, 7, none⟩ = some (.bool q'.1.s.odd) ∧ w'.cell? ⟨w9.heap.size, 8, none⟩ = some (.slice pdc q'.1.c.length cdc)) (by kernel_rfl) (⟨blk_cell bt.out 0 _ rfl, blk_cell bt.out 1 _ rfl, blk_cell bt.out 2 _ rfl, blk_cell bt.out 3 _ rfl, blk_cell bt.out 4 _ rfl, blk_cell bt.out 5 _ rfl, blk_cell bt.out 6 _ rfl, blk_cell bt.out 7 _ rfl, blk_cell bt.out 8 _ rfl, blk_cell bu.out 0 _ rfl, blk_cell bu.out 1 _ rfl, blk_cell bu.out 2 _ rfl, blk_cell bu.out 3 _ rfl, blk_cell bu.out 4 _ rfl, blk_cell bu.out 5 _ rfl, blk_cell bu.out 6 _ rfl, blk_cell bu.out 7 _ rfl, blk_cell bu.out 8 _ rfl, blk_cell bv.out 0 _ rfl, blk_cell bv.out 1 _ rfl, blk_cell bv.out 2 _ rfl, blk_cell bv.out 3 _ rfl, blk_cell bv.out 4 _ rfl, blk_cell bv.out 5 _ rfl, blk_cell bv.out 6 _ rfl, blk_cell bv.out 7 _ rfl, blk_cell bv.out 8 _ rfl, blk_cell bw.out 0 _ rfl, blk_cell bw.out 1 _ rfl, blk_cell bw.out 2 _ rfl, blk_cell bw.out 3 _ rfl, blk_cell bw.out 4 _ rfl, blk_cell bw.out 5 _ rfl, blk_cell bw.out 6 _ rfl, blk_cell bw.out 7 _ rfl, blk_cell bw.out 8 _ rfl⟩) (fun hS => ?_)
    replace hT := Lib.hid (tabs_next hT.out (Below.refl _ _).drew)
    replace rs := Lib.hid (rm_below rs.out (Below.refl _ _).drew)
    replace rl := Lib.hid (ri_below rl.out (Below.refl _ _).drew)
    replace bs := Lib.hid (blk_below bs.out (Below.refl _ _).drew)
    replace ra := Lib.hid (rm_below ra.out (Below.refl _ _).drew)
    replace oa := Lib.hid (ri_below oa.out (Below.refl _ _).drew)
    replace bt := Lib.hid (blk_below bt.out (Below.refl _ _).drew)
    replace rb := Lib.hid (rm_below rb.out (Below.refl _ _).drew)
    replace ob := Lib.hid (ri_below ob.out (Below.refl _ _).drew)
    replace bu := Lib.hid (blk_below bu.out (Below.refl _ _).drew)
    replace rc := Lib.hid (rm_below rc.out (Below.refl _ _).drew)
    replace oc := Lib.hid (ri_below oc.out (Below.refl _ _).drew)
    replace bv := Lib.hid (blk_below bv.out (Below.refl _ _).drew)
    replace rd := Lib.hid (rm_below rd.out (Below.refl _ _).drew)
    replace od := Lib.hid (ri_below od.out (Below.refl _ _).drew)
    replace bw := Lib.hid (blk_below bw.out (Below.refl _ _).drew)
    replace bq := Lib.hid (below_on bq.out (Below.refl _ _).drew)
    refine' wpAnyH_take (i := 0) (oi := ⟨_, _, _, _, _, _⟩) (v := _) rfl (by kernel_rfl) (by kernel_rfl) (by kernel_rfl) (fun _ _ _ h => h) (Or.inl ⟨by rfl, ?hyr80⟩) hS ?restr80
    case hyr80 => (intro wz hSw; (try dsimp only at hSw); go_simp; try with_reducible rfl)
    try simp only [Act.put, List.setIfInBounds_toArray, List.set_cons_zero, List.set_cons_succ]
    refine' wpAnyH_take (i := 2) (oi := ⟨_, _, _, _, _, _⟩) (v := _) rfl (by kernel_rfl) (by kernel_rfl) (by kernel_rfl) (fun _ _ _ h => h) (Or.inl ⟨by rfl, ?hyr82⟩) hS ?restr82
    case hyr82 => (intro wz hSw; (try dsimp only at hSw); go_simp; try with_reducible rfl)
    try simp only [Act.put, List.setIfInBounds_toArray, List.set_cons_zero, List.set_cons_succ]
    refine wpAnyH_ready (rs := [1]) (by kernel_rfl) (by simp) (AllReadyH.cons rfl (fun K hK => ?_) AllReadyH.nil)
    go_simp
    go_at_call 16
    refine (hth.out _ _ _ _ _ _ _ _ _ _ _ _ _ _ _ ((w9.alloc (.cells #[.int .i64 q'.1.kind, .string ⟨q'.1.d.toArray⟩, .slice pdn q'.1.n.length cdn, .slice pdg q'.1.g.length cdg, .bool q'.1.s.on, .int .i64 q'.1.s.kind, .bool q'.1.s.pict, .bool q'.1.s.odd, .slice pdc q'.1.c.length cdc] 32))).drew).mono ?_
    rintro e w10 ⟨rfl, q10⟩
    go_wp2_with fail
    refine hK.out _ _ (kp.out _ _ q10 hS) (fun hSn => ?_)
    clear hS
    have hS := hSn
    clear hSn
    clear hK K
    try simp only [Act.put, List.setIfInBounds_toArray, List.set_cons_zero, List.set_cons_succ]
    replace hT := Lib.hid (tabs_next hT.out q10)
    replace rs := Lib.hid (rm_below rs.out q10)
    replace rl := Lib.hid (ri_below rl.out q10)
    replace bs := Lib.hid (blk_below bs.out q10)
    replace ra := Lib.hid (rm_below ra.out q10)
    replace oa := Lib.hid (ri_below oa.out q10)
    replace bt := Lib.hid (blk_below bt.out q10)
    replace rb := Lib.hid (rm_below rb.out q10)
    replace ob := Lib.hid (ri_below ob.out q10)
    replace bu := Lib.hid (blk_below bu.out q10)
    replace rc := Lib.hid (rm_below rc.out q10)
    replace oc := Lib.hid (ri_below oc.out q10)
    replace bv := Lib.hid (blk_below bv.out q10)
    replace rd := Lib.hid (rm_below rd.out q10)
    replace od := Lib.hid (ri_below od.out q10)
    replace bw := Lib.hid (blk_below bw.out q10)
    replace bq := Lib.hid (below_on bq.out q10)
    clear q10
    refine wpAnyH_ready (rs := [3]) (by kernel_rfl) (by simp) (AllReadyH.cons rfl (fun K hK => ?_) AllReadyH.nil)
    go_simp
    go_at_call 15
    refine (rsame15_self _ _ q.1 w10 hsq.out ra.out rb.out).mono ?_
    rintro e w11 ⟨rfl, q11⟩
    go_wp2_with fail
    refine hK.out _ _ (kp.out _ _ q11 hS) (fun hSn => ?_)
    clear hS
    have hS := hSn
    clear hSn
    clear hK K
    try simp only [Act.put, List.setIfInBounds_toArray, List.set_cons_zero, List.set_cons_succ]
    replace hT := Lib.hid (tabs_next hT.out q11)
    replace rs := Lib.hid (rm_below rs.out q11)
    replace rl := Lib.hid (ri_below rl.out q11)
    replace bs := Lib.hid (blk_below bs.out q11)
    replace ra := Lib.hid (rm_below ra.out q11)
    replace oa := Lib.hid (ri_below oa.out q11)
    replace bt := Lib.hid (blk_below bt.out q11)
    replace rb := Lib.hid (rm_below rb.out q11)
    replace ob := Lib.hid (ri_below ob.out q11)
    replace bu := Lib.hid (blk_below bu.out q11)
    replace rc := Lib.hid (rm_below rc.out q11)
    replace oc := Lib.hid (ri_below oc.out q11)
    replace bv := Lib.hid (blk_below bv.out q11)
    replace rd := Lib.hid (rm_below rd.out q11)
    replace od := Lib.hid (ri_below od.out q11)
    replace bw := Lib.hid (blk_below bw.out q11)
    replace bq := Lib.hid (below_on bq.out q11)
    clear q11
    refine' wpAnyH_take (i := 4) (oi := ⟨_, _, _, _, _, _⟩) (v := _) rfl (by kernel_rfl) (by kernel_rfl) (by kernel_rfl) (fun _ _ _ h => h) (Or.inl ⟨by rfl, ?hyr84⟩) hS ?restr84
    case hyr84 => (intro wz hSw; (try dsimp only at hSw); go_simp; try with_reducible rfl)
    try simp only [Act.put, List.setIfInBounds_toArray, List.set_cons_zero, List.set_cons_succ]
    refine' wpAnyH_take (i := 5) (oi := ⟨_, _, _, _, _, _⟩) (v := _) rfl (by kernel_rfl) (by kernel_rfl) (by kernel_rfl) (fun _ _ _ h => h) (Or.inl ⟨by rfl, ?hyr85⟩) hS ?restr85
    case hyr85 => (intro wz hSw; (try dsimp only at hSw); go_simp; try with_reducible rfl)
    try simp only [Act.put, List.setIfInBounds_toArray, List.set_cons_zero, List.set_cons_succ]
    refine' wpAnyH_take (i := 6) (oi := ⟨_, _, _, _, _, _⟩) (v := _) rfl (by kernel_rfl) (by kernel_rfl) (by kernel_rfl) (fun _ _ _ h => h) (Or.inl ⟨by rfl, ?hyr86⟩) hS ?restr86
    case hyr86 => (intro wz hSw; (try dsimp only at hSw); go_simp; try with_reducible rfl)
    try simp only [Act.put, List.setIfInBounds_toArray, List.set_cons_zero, List.set_cons_succ]
    refine' wpAnyH_take (i := 7) (oi := ⟨_, _, _, _, _, _⟩) (v := _) rfl (by kernel_rfl) (by kernel_rfl) (by kernel_rfl) (fun _ _ _ h => h) (Or.inl ⟨by rfl, ?hyr87⟩) hS ?restr87
    case hyr87 => (intro wz hSw; (try dsimp only at hSw); go_simp; try with_reducible rfl)
    try simp only [Act.put, List.setIfInBounds_toArray, List.set_cons_zero, List.set_cons_succ]
    refine wpAnyH_ready (rs := [8]) (by kernel_rfl) (by simp) (AllReadyH.cons rfl (fun K hK => ?_) AllReadyH.nil)
    go_simp
    go_at_call 17
    refine (same_self _ _ q.2 w11 hlq.out oa.out ob.out).mono ?_
    rintro e w12 ⟨rfl, q12⟩
    go_wp2_with fail
    refine hK.out _ _ (kp.out _ _ q12 hS) (fun hSn => ?_)
    clear hS
    have hS := hSn
    clear hSn
    clear hK K
    try simp only [Act.put, List.setIfInBounds_toArray, List.set_cons_zero, List.set_cons_succ]
    replace hT := Lib.hid (tabs_next hT.out q12)
    replace rs := Lib.hid (rm_below rs.out q12)
    replace rl := Lib.hid (ri_below rl.out q12)
    replace bs := Lib.hid (blk_below bs.out q12)
    replace ra := Lib.hid (rm_below ra.out q12)
    replace oa := Lib.hid (ri_below oa.out q12)
    replace bt := Lib.hid (blk_below bt.out q12)
    replace rb := Lib.hid (rm_below rb.out q12)
    replace ob := Lib.hid (ri_below ob.out q12)
    replace bu := Lib.hid (blk_below bu.out q12)
    replace rc := Lib.hid (rm_below rc.out q12)
    replace oc := Lib.hid (ri_below oc.out q12)
    replace bv := Lib.hid (blk_below bv.out q12)
    replace rd := Lib.hid (rm_below rd.out q12)
    replace od := Lib.hid (ri_below od.out q12)
    replace bw := Lib.hid (blk_below bw.out q12)
    replace bq := Lib.hid (below_on bq.out q12)
    clear q12
    refine' wpAnyH_take (i := 9) (oi := ⟨_, _, _, _, _, _⟩) (v := _) rfl (by kernel_rfl) (by kernel_rfl) (by kernel_rfl) (fun _ _ _ h => h) (Or.inl ⟨by rfl, ?hyr89⟩) hS ?restr89
    case hyr89 => (intro wz hSw; (try dsimp only at hSw); go_simp; try with_reducible rfl)
    try simp only [Act.put, List.setIfInBounds_toArray, List.set_cons_zero, List.set_cons_succ]
    refine' wpAnyH_take (i := 10) (oi := ⟨_, _, _, _, _, _⟩) (v := _) rfl (by kernel_rfl) (by kernel_rfl) (by kernel_rfl) (fun _ _ _ h => h) (Or.inl ⟨by rfl, ?hyr810⟩) hS ?restr810
    case hyr810 => (intro wz hSw; (try dsimp only at hSw); go_simp; try with_reducible rfl)
    try simp only [Act.put, List.setIfInBounds_toArray, List.set_cons_zero, List.set_cons_succ]
    refine' wpAnyH_take (i := 11) (oi := ⟨_, _, _, _, _, _⟩) (v := _) rfl (by kernel_rfl) (by kernel_rfl) (by kernel_rfl) (fun _ _ _ h => h) (Or.inl ⟨by rfl, ?hyr811⟩) hS ?restr811
    case hyr811 => (intro wz hSw; (try dsimp only at hSw); go_simp; try with_reducible rfl)
    try simp only [Act.put, List.setIfInBounds_toArray, List.set_cons_zero, List.set_cons_succ]
    refine' wpAnyH_take (i := 12) (oi := ⟨_, _, _, _, _, _⟩) (v := _) rfl (by kernel_rfl) (by kernel_rfl) (by kernel_rfl) (fun _ _ _ h => h) (Or.inl ⟨by rfl, ?hyr812⟩) hS ?restr812
    case hyr812 => (intro wz hSw; (try dsimp only at hSw); go_simp; try with_reducible rfl)
    try simp only [Act.put, List.setIfInBounds_toArray, List.set_cons_zero, List.set_cons_succ]
    refine' wpAnyH_take (i := 14) (oi := ⟨_, _, _, _, _, _⟩) (v := _) rfl (by kernel_rfl) (by kernel_rfl) (by kernel_rfl) (fun _ _ _ h => h) (Or.inl ⟨by rfl, ?hyr814⟩) hS ?restr814
    case hyr814 => (intro wz hSw; (try dsimp only at hSw); go_simp; try with_reducible rfl)
    try simp only [Act.put, List.setIfInBounds_toArray, List.set_cons_zero, List.set_cons_succ]
    refine wpAnyH_ready (rs := [13]) (by kernel_rfl) (by simp) (AllReadyH.cons rfl (fun K hK => ?_) AllReadyH.nil)
    go_simp
    go_at_call 16
    refine (hth.out _ _ _ _ _ _ _ _ _ _ _ _ _ _ _ w12).mono ?_
    rintro e w13 ⟨rfl, q13⟩
    go_wp2_with fail
    refine hK.out _ _ (kp.out _ _ q13 hS) (fun hSn => ?_)
    clear hS
    have hS := hSn
    clear hSn
    clear hK K
    try simp only [Act.put, List.setIfInBounds_toArray, List.set_cons_zero, List.set_cons_succ]
    replace hT := Lib.hid (tabs_next hT.out q13)
    replace rs := Lib.hid (rm_below rs.out q13)
    replace rl := Lib.hid (ri_below rl.out q13)
    replace bs := Lib.hid (blk_below bs.out q13)
    replace ra := Lib.hid (rm_below ra.out q13)
    replace oa := Lib.hid (ri_below oa.out q13)
    replace bt := Lib.hid (blk_below bt.out q13)
    replace rb := Lib.hid (rm_below rb.out q13)
    replace ob := Lib.hid (ri_below ob.out q13)
    replace bu := Lib.hid (blk_below bu.out q13)
    replace rc := Lib.hid (rm_below rc.out q13)
    replace oc := Lib.hid (ri_below oc.out q13)
    replace bv := Lib.hid (blk_below bv.out q13)
    replace rd := Lib.hid (rm_below rd.out q13)
    replace od := Lib.hid (ri_below od.out q13)
    replace bw := Lib.hid (blk_below bw.out q13)
    replace bq := Lib.hid (below_on bq.out q13)
    clear q13
    refine wpAnyH_ready (rs := [15]) (by kernel_rfl) (by simp) (AllReadyH.cons rfl (fun K hK => ?_) AllReadyH.nil)
    go_simp
    go_at_call 15
    refine (rsame15_self _ _ q'.1 w13 hse.out rc.out rd.out).mono ?_
    rintro e w14 ⟨rfl, q14⟩
    go_wp2_with fail
    refine hK.out _ _ (kp.out _ _ q14 hS) (fun hSn => ?_)
    clear hS
    have hS := hSn
    clear hSn
    clear hK K
    try simp only [Act.put, List.setIfInBounds_toArray, List.set_cons_zero, List.set_cons_succ]
    replace hT := Lib.hid (tabs_next hT.out q14)
    replace rs := Lib.hid (rm_below rs.out q14)
    replace rl := Lib.hid (ri_below rl.out q14)
    replace bs := Lib.hid (blk_below bs.out q14)
    replace ra := Lib.hid (rm_below ra.out q14)
    replace oa := Lib.hid (ri_below oa.out q14)
    replace bt := Lib.hid (blk_below bt.out q14)
    replace rb := Lib.hid (rm_below rb.out q14)
    replace ob := Lib.hid (ri_below ob.out q14)
    replace bu := Lib.hid (blk_below bu.out q14)
    replace rc := Lib.hid (rm_below rc.out q14)
    replace oc := Lib.hid (ri_below oc.out q14)
    replace bv := Lib.hid (blk_below bv.out q14)
    replace rd := Lib.hid (rm_below rd.out q14)
    replace od := Lib.hid (ri_below od.out q14)
    replace bw := Lib.hid (blk_below bw.out q14)
    replace bq := Lib.hid (below_on bq.out q14)
    clear q14
    refine' wpAnyH_take (i := 16) (oi := ⟨_, _, _, _, _, _⟩) (v := _) rfl (by kernel_rfl) (by kernel_rfl) (by kernel_rfl) (fun _ _ _ h => h) (Or.inl ⟨by rfl, ?hyr816⟩) hS ?restr816
    case hyr816 => (intro wz hSw; (try dsimp only at hSw); go_simp; try with_reducible rfl)
    try simp only [Act.put, List.setIfInBounds_toArray, List.set_cons_zero, List.set_cons_succ]
    refine' wpAnyH_take (i := 17) (oi := ⟨_, _, _, _, _, _⟩) (v := _) rfl (by kernel_rfl) (by kernel_rfl) (by kernel_rfl) (fun _ _ _ h => h) (Or.inl ⟨by rfl, ?hyr817⟩) hS ?restr817
    case hyr817 => (intro wz hSw; (try dsimp only at hSw); go_simp; try with_reducible rfl)
    try simp only [Act.put, List.setIfInBounds_toArray, List.set_cons_zero, List.set_cons_succ]
    refine' wpAnyH_take (i := 18) (oi := ⟨_, _, _, _, _, _⟩) (v := _) rfl (by kernel_rfl) (by kernel_rfl) (by kernel_rfl) (fun _ _ _ h => h) (Or.inl ⟨by rfl, ?hyr818⟩) hS ?restr818
    case hyr818 => (intro wz hSw; (try dsimp only at hSw); go_simp; try with_reducible rfl)
    try simp only [Act.put, List.setIfInBounds_toArray, List.set_cons_zero, List.set_cons_succ]
    refine' wpAnyH_take (i := 19) (oi := ⟨_, _, _, _, _, _⟩) (v := _) rfl (by kernel_rfl) (by kernel_rfl) (by kernel_rfl) (fun _ _ _ h => h) (Or.inl ⟨by rfl, ?hyr819⟩) hS ?restr819
    case hyr819 => (intro wz hSw; (try dsimp only at hSw); go_simp; try with_reducible rfl)
    try simp only [Act.put, List.setIfInBounds_toArray, List.set_cons_zero, List.set_cons_succ]
    refine' wpAnyH_take (i := 20) (oi := ⟨_, _, _, _, _, _⟩) (v := _) rfl (by kernel_rfl) (by kernel_rfl) (by kernel_rfl) (fun _ _ _ h => h) (Or.inl ⟨by rfl, ?hyr820⟩) hS ?restr820
    case hyr820 => (intro wz hSw; (try dsimp only at hSw); go_simp; try with_reducible rfl)
    try simp only [Act.put, List.setIfInBounds_toArray, List.set_cons_zero, List.set_cons_succ]
    refine wpAnyH_ready (rs := [21]) (by kernel_rfl) (by simp) (AllReadyH.cons rfl (fun K hK => ?_) AllReadyH.nil)
    go_simp
    go_at_call 17
    refine (same_self _ _ q'.2 w14 hle.out oc.out od.out).mono ?_
    rintro e w15 ⟨rfl, q15⟩
    go_wp2_with fail
    refine hK.out _ _ (kp.out _ _ q15 hS) (fun hSn => ?_)
    clear hS
    have hS := hSn
    clear hSn
    clear hK K
    try simp only [Act.put, List.setIfInBounds_toArray, List.set_cons_zero, List.set_cons_succ]
    replace hT := Lib.hid (tabs_next hT.out q15)
    replace rs := Lib.hid (rm_below rs.out q15)
    replace rl := Lib.hid (ri_below rl.out q15)
    replace bs := Lib.hid (blk_below bs.out q15)
    replace ra := Lib.hid (rm_below ra.out q15)
    replace oa := Lib.hid (ri_below oa.out q15)
    replace bt := Lib.hid (blk_below bt.out q15)
    replace rb := Lib.hid (rm_below rb.out q15)
    replace ob := Lib.hid (ri_below ob.out q15)
    replace bu := Lib.hid (blk_below bu.out q15)
    replace rc := Lib.hid (rm_below rc.out q15)
    replace oc := Lib.hid (ri_below oc.out q15)
    replace bv := Lib.hid (blk_below bv.out q15)
    replace rd := Lib.hid (rm_below rd.out q15)
    replace od := Lib.hid (ri_below od.out q15)
    replace bw := Lib.hid (blk_below bw.out q15)
    replace bq := Lib.hid (below_on bq.out q15)
    clear q15
    refine' wpAnyH_take (i := 22) (oi := ⟨_, _, _, _, _, _⟩) (v := _) rfl (by kernel_rfl) (by kernel_rfl) (by kernel_rfl) (fun _ _ _ h => h) (Or.inl ⟨by rfl, ?hyr822⟩) hS ?restr822
    case hyr822 => (intro wz hSw; (try dsimp only at hSw); go_simp; try with_reducible rfl)
    try simp only [Act.put, List.setIfInBounds_toArray, List.set_cons_zero, List.set_cons_succ]
    refine' wpAnyH_take (i := 23) (oi := ⟨_, _, _, _, _, _⟩) (v := _) rfl (by kernel_rfl) (by kernel_rfl) (by kernel_rfl) (fun _ _ _ h => h) (Or.inl ⟨by rfl, ?hyr823⟩) hS ?restr823
    case hyr823 => (intro wz hSw; (try dsimp only at hSw); go_simp; try with_reducible rfl)
    try simp only [Act.put, List.setIfInBounds_toArray, List.set_cons_zero, List.set_cons_succ]
    refine wpAnyH_done (by kernel_rfl) ?_ _
    clear hS
    go_simp
    go_upto_region 10 with (fail)
    clear kp
    have kp : ∀ (W W' : World), Below W.heap.size W W' → (fun w' => w'.cell? ⟨w.heap.size, 0, none⟩ = some (.int .i64 m.kind) ∧ w'.cell? ⟨w.heap.size, 1, none⟩ = some (.string S) ∧ w'.cell? ⟨w.heap.size, 2, none⟩ = some (.slice pn m.n.length cn) ∧ w'.cell? ⟨w.heap.size, 3, none⟩ = some (.slice pg m.g.length cg) ∧ w'.cell? ⟨w.heap.size, 4, none⟩ = some (.bool m.s.on) ∧ w'.cell? ⟨w.heap.size, 5, none⟩ = some (.int .i64 m.s.kind) ∧ w'.cell? ⟨w.heap.size, 6, none⟩ = some (.bool m.s.pict) ∧ w'.cell? ⟨w.heap.size, 7, none⟩ = some (.bool m.s.odd) ∧ w'.cell? ⟨w.heap.size, 8, none⟩ = some (.slice pc m.c.length cc)) W → (fun w' => w'.cell? ⟨w.heap.size, 0, none⟩ = some (.int .i64 m.kind) ∧ w'.cell? ⟨w.heap.size, 1, none⟩ = some (.string S) ∧ w'.cell? ⟨w.heap.size, 2, none⟩ = some (.slice pn m.n.length cn) ∧ w'.cell? ⟨w.heap.size, 3, none⟩ = some (.slice pg m.g.length cg) ∧ w'.cell? ⟨w.heap.size, 4, none⟩ = some (.bool m.s.on) ∧ w'.cell? ⟨w.heap.size, 5, none⟩ = some (.int .i64 m.s.kind) ∧ w'.cell? ⟨w.heap.size, 6, none⟩ = some (.bool m.s.pict) ∧ w'.cell? ⟨w.heap.size, 7, none⟩ = some (.bool m.s.odd) ∧ w'.cell? ⟨w.heap.size, 8, none⟩ = some (.slice pc m.c.length cc)) W' := by
      rintro W W' hb ⟨h0, h1, h2, h3, h4, h5, h6, h7, h8⟩
      exact ⟨(hb.cell (World.block_lt_of_cell? _ _ h0)).trans h0, (hb.cell (World.block_lt_of_cell? _ _ h1)).trans h1, (hb.cell (World.block_lt_of_cell? _ _ h2)).trans h2, (hb.cell (World.block_lt_of_cell? _ _ h3)).trans h3, (hb.cell (World.block_lt_of_cell? _ _ h4)).trans h4, (hb.cell (World.block_lt_of_cell? _ _ h5)).trans h5, (hb.cell (World.block_lt_of_cell? _ _ h6)).trans h6, (hb.cell (World.block_lt_of_cell? _ _ h7)).trans h7, (hb.cell (World.block_lt_of_cell? _ _ h8)).trans h8⟩
    replace kp := Lib.hid kp
    refine wp_region_held_drew (S := fun w' => w'.cell? ⟨w.heap.size, 0, none⟩ = some (.int .i64 m.kind) ∧ w'.cell? ⟨w.heap.size, 1, none⟩ = some (.string S) ∧ w'.cell? ⟨w.heap.size, 2, none⟩ = some (.slice pn m.n.length cn) ∧ w'.cell? ⟨w.heap.size, 3, none⟩ = some (.slice pg m.g.length cg) ∧ w'.cell? ⟨w.heap.size, 4, none⟩ = some (.bool m.s.on) ∧ w'.cell? ⟨w.heap.size, 5, none⟩ = some (.int .i64 m.s.kind) ∧ w'.cell? ⟨w.heap.size, 6, none⟩ = some (.bool m.s.pict) ∧ w'.cell? ⟨w.heap.size, 7, none⟩ = some (.bool m.s.odd) ∧ w'.cell? ⟨w.heap.size, 8, none⟩ = some (.slice pc m.c.length cc)) (by kernel_rfl) (⟨blk_cell bs.out 0 _ rfl, blk_cell bs.out 1 _ rfl, blk_cell bs.out 2 _ rfl, blk_cell bs.out 3 _ rfl, blk_cell bs.out 4 _ rfl, blk_cell bs.out 5 _ rfl, blk_cell bs.out 6 _ rfl, blk_cell bs.out 7 _ rfl, blk_cell bs.out 8 _ rfl⟩) (fun hS => ?_)
    replace hT := Lib.hid (tabs_next hT.out (Below.refl _ _).drew)
    replace rs := Lib.hid (rm_below rs.out (Below.refl _ _).drew)
    replace rl := Lib.hid (ri_below rl.out (Below.refl _ _).drew)
    replace bs := Lib.hid (blk_below bs.out (Below.refl _ _).drew)
    replace ra := Lib.hid (rm_below ra.out (Below.refl _ _).drew)
    replace oa := Lib.hid (ri_below oa.out (Below.refl _ _).drew)
    replace bt := Lib.hid (blk_below bt.out (Below.refl _ _).drew)
    replace rb := Lib.hid (rm_below rb.out (Below.refl _ _).drew)
    replace ob := Lib.hid (ri_below ob.out (Below.refl _ _).drew)
    replace bu := Lib.hid (blk_below bu.out (Below.refl _ _).drew)
    replace rc := Lib.hid (rm_below rc.out (Below.refl _ _).drew)
    replace oc := Lib.hid (ri_below oc.out (Below.refl _ _).drew)
    replace bv := Lib.hid (blk_below bv.out (Below.refl _ _).drew)
    replace rd := Lib.hid (rm_below rd.out (Below.refl _ _).drew)
    replace od := Lib.hid (ri_below od.out (Below.refl _ _).drew)
    replace bw := Lib.hid (blk_below bw.out (Below.refl _ _).drew)
    replace bq := Lib.hid (below_on bq.out (Below.refl _ _).drew)
    refine' wpAnyH_take (i := 0) (oi := ⟨_, _, _, _, _, _⟩) (v := _) rfl (by kernel_rfl) (by kernel_rfl) (by kernel_rfl) (fun _ _ _ h => h) (Or.inl ⟨by rfl, ?hyr100⟩) hS ?restr100
    case hyr100 => (intro wz hSw; (try dsimp only at hSw); go_simp; try with_reducible rfl)
    try simp only [Act.put, List.setIfInBounds_toArray, List.set_cons_zero, List.set_cons_succ]
    refine' wpAnyH_take (i := 1) (oi := ⟨_, _, _, _, _, _⟩) (v := _) rfl (by kernel_rfl) (by kernel_rfl) (by kernel_rfl) (fun _ _ _ h => h) (Or.inl ⟨by rfl, ?hyr101⟩) hS ?restr101
    case hyr101 => (intro wz hSw; (try dsimp only at hSw); go_simp; try with_reducible rfl)
    try simp only [Act.put, List.setIfInBounds_toArray, List.set_cons_zero, List.set_cons_succ]
    refine' wpAnyH_take (i := 2) (oi := ⟨_, _, _, _, _, _⟩) (v := _) rfl (by kernel_rfl) (by kernel_rfl) (by kernel_rfl) (fun _ _ _ h => h) (Or.inl ⟨by rfl, ?hyr102⟩) hS ?restr102
    case hyr102 => (intro wz hSw; (try dsimp only at hSw); go_simp; try with_reducible rfl)
    try simp only [Act.put, List.setIfInBounds_toArray, List.set_cons_zero, List.set_cons_succ]
    refine' wpAnyH_take (i := 5) (oi := ⟨_, _, _, _, _, _⟩) (v := _) rfl (by kernel_rfl) (by kernel_rfl) (by kernel_rfl) (fun _ _ _ h => h) (Or.inl ⟨by rfl, ?hyr105⟩) hS ?restr105
    case hyr105 => (intro wz hSw; (try dsimp only at hSw); go_simp; try with_reducible rfl)
    try simp only [Act.put, List.setIfInBounds_toArray, List.set_cons_zero, List.set_cons_succ]
    refine wpAnyH_ready (rs := [3]) (by kernel_rfl) (by simp) (AllReadyH.cons rfl (fun K hK => ?_) AllReadyH.nil)
    go_simp
    go_at_call 18
    refine (hnw.out (w15).drew).mono ?_
    rintro e w16 ⟨vk, rfl, rk, q16⟩
    obtain ⟨pkn, ckn, pkg, ckg, pkc, ckc, rfl⟩ := rm_form rk
    unfold cellsM at rk ⊢
    replace rk := Lib.hid rk
    go_wp2_with fail
    refine hK.out _ _ (kp.out _ _ q16 hS) (fun hSn => ?_)
    clear hS
    have hS := hSn
    clear hSn
    clear hK K
    try simp only [Act.put, List.setIfInBounds_toArray, List.set_cons_zero, List.set_cons_succ]
    replace hT := Lib.hid (tabs_next hT.out q16)
    replace rs := Lib.hid (rm_below rs.out q16)
    replace rl := Lib.hid (ri_below rl.out q16)
    replace bs := Lib.hid (blk_below bs.out q16)
    replace ra := Lib.hid (rm_below ra.out q16)
    replace oa := Lib.hid (ri_below oa.out q16)
    replace bt := Lib.hid (blk_below bt.out q16)
    replace rb := Lib.hid (rm_below rb.out q16)
    replace ob := Lib.hid (ri_below ob.out q16)
    replace bu := Lib.hid (blk_below bu.out q16)
    replace rc := Lib.hid (rm_below rc.out q16)
    replace oc := Lib.hid (ri_below oc.out q16)
    replace bv := Lib.hid (blk_below bv.out q16)
    replace rd := Lib.hid (rm_below rd.out q16)
    replace od := Lib.hid (ri_below od.out q16)
    replace bw := Lib.hid (blk_below bw.out q16)
    replace bq := Lib.hid (below_on bq.out q16)
    clear q16
    refine wpAnyH_ready (rs := [4]) (by kernel_rfl) (by simp) (AllReadyH.cons rfl (fun K hK => ?_) AllReadyH.nil)
    go_simp
    go_at_call 16
    refine (hth.out _ _ _ _ _ _ _ _ _ _ _ _ _ _ _ w16).mono ?_
    rintro e w17 ⟨rfl, q17⟩
    go_wp2_with fail
    refine hK.out _ _ (kp.out _ _ q17 hS) (fun hSn => ?_)
    clear hS
    have hS := hSn
    clear hSn
    clear hK K
    try simp only [Act.put, List.setIfInBounds_toArray, List.set_cons_zero, List.set_cons_succ]
    replace hT := Lib.hid (tabs_next hT.out q17)
    replace rs := Lib.hid (rm_below rs.out q17)
    replace rl := Lib.hid (ri_below rl.out q17)
    replace bs := Lib.hid (blk_below bs.out q17)
    replace ra := Lib.hid (rm_below ra.out q17)
    replace oa := Lib.hid (ri_below oa.out q17)
    replace bt := Lib.hid (blk_below bt.out q17)
    replace rb := Lib.hid (rm_below rb.out q17)
    replace ob := Lib.hid (ri_below ob.out q17)
    replace bu := Lib.hid (blk_below bu.out q17)
    replace rc := Lib.hid (rm_below rc.out q17)
    replace oc := Lib.hid (ri_below oc.out q17)
    replace bv := Lib.hid (blk_below bv.out q17)
    replace rd := Lib.hid (rm_below rd.out q17)
    replace od := Lib.hid (ri_below od.out q17)
    replace bw := Lib.hid (blk_below bw.out q17)
    replace rk := Lib.hid (rm_below rk.out q17)
    replace bq := Lib.hid (below_on bq.out q17)
    clear q17
    refine wpAnyH_ready (rs := [6]) (by kernel_rfl) (by simp) (AllReadyH.cons rfl (fun K hK => ?_) AllReadyH.nil)
    go_simp
    go_at_call 19
    refine (hrn.out w17).mono ?_
    rintro e w18 ⟨rfl, q18⟩
    have r2 := Lib.hid (hRK.out w18)
    go_wp2_with fail
    refine hK.out _ _ (kp.out _ _ q18 hS) (fun hSn => ?_)
    clear hS
    have hS := hSn
    clear hSn
    clear hK K
    try simp only [Act.put, List.setIfInBounds_toArray, List.set_cons_zero, List.set_cons_succ]
    replace hT := Lib.hid (tabs_next hT.out q18)
    replace rs := Lib.hid (rm_below rs.out q18)
    replace rl := Lib.hid (ri_below rl.out q18)
    replace bs := Lib.hid (blk_below bs.out q18)
    replace ra := Lib.hid (rm_below ra.out q18)
    replace oa := Lib.hid (ri_below oa.out q18)
    replace bt := Lib.hid (blk_below bt.out q18)
    replace rb := Lib.hid (rm_below rb.out q18)
    replace ob := Lib.hid (ri_below ob.out q18)
    replace bu := Lib.hid (blk_below bu.out q18)
    replace rc := Lib.hid (rm_below rc.out q18)
    replace oc := Lib.hid (ri_below oc.out q18)
    replace bv := Lib.hid (blk_below bv.out q18)
    replace rd := Lib.hid (rm_below rd.out q18)
    replace od := Lib.hid (ri_below od.out q18)
    replace bw := Lib.hid (blk_below bw.out q18)
    replace rk := Lib.hid (rm_below rk.out q18)
    replace bq := Lib.hid (below_on bq.out q18)
    clear q18
    refine wpAnyH_ready (rs := [7]) (by kernel_rfl) (by simp) (AllReadyH.cons rfl (fun K hK => ?_) AllReadyH.nil)
    go_simp
    go_at_call 15
    refine (rsame15_self _ _ KM w18 hsk.out rk.out r2.out).mono ?_
    rintro e w19 ⟨rfl, q19⟩
    go_wp2_with fail
    refine hK.out _ _ (kp.out _ _ q19 hS) (fun hSn => ?_)
    clear hS
    have hS := hSn
    clear hSn
    clear hK K
    try simp only [Act.put, List.setIfInBounds_toArray, List.set_cons_zero, List.set_cons_succ]
    replace hT := Lib.hid (tabs_next hT.out q19)
    replace rs := Lib.hid (rm_below rs.out q19)
    replace rl := Lib.hid (ri_below rl.out q19)
    replace bs := Lib.hid (blk_below bs.out q19)
    replace ra := Lib.hid (rm_below ra.out q19)
    replace oa := Lib.hid (ri_below oa.out q19)
    replace bt := Lib.hid (blk_below bt.out q19)
    replace rb := Lib.hid (rm_below rb.out q19)
    replace ob := Lib.hid (ri_below ob.out q19)
    replace bu := Lib.hid (blk_below bu.out q19)
    replace rc := Lib.hid (rm_below rc.out q19)
    replace oc := Lib.hid (ri_below oc.out q19)
    replace bv := Lib.hid (blk_below bv.out q19)
    replace rd := Lib.hid (rm_below rd.out q19)
    replace od := Lib.hid (ri_below od.out q19)
    replace bw := Lib.hid (blk_below bw.out q19)
    replace rk := Lib.hid (rm_below rk.out q19)
    replace r2 := Lib.hid (rm_below r2.out q19)
    replace bq := Lib.hid (below_on bq.out q19)
    clear q19
    refine' wpAnyH_take (i := 8) (oi := ⟨_, _, _, _, _, _⟩) (v := _) rfl (by kernel_rfl) (by kernel_rfl) (by kernel_rfl) (fun _ _ _ h => h) (Or.inl ⟨by rfl, ?hyr108⟩) hS ?restr108
    case hyr108 => (intro wz hSw; (try dsimp only at hSw); go_simp; try with_reducible rfl)
    try simp only [Act.put, List.setIfInBounds_toArray, List.set_cons_zero, List.set_cons_succ]
    refine' wpAnyH_take (i := 9) (oi := ⟨_, _, _, _, _, _⟩) (v := _) rfl (by kernel_rfl) (by kernel_rfl) (by kernel_rfl) (fun _ _ _ h => h) (Or.inl ⟨by rfl, ?hyr109⟩) hS ?restr109
    case hyr109 => (intro wz hSw; (try dsimp only at hSw); go_simp; try with_reducible rfl)
    try simp only [Act.put, List.setIfInBounds_toArray, List.set_cons_zero, List.set_cons_succ]
    refine' wpAnyH_take (i := 10) (oi := ⟨_, _, _, _, _, _⟩) (v := _) rfl (by kernel_rfl) (by kernel_rfl) (by kernel_rfl) (fun _ _ _ h => h) (Or.inl ⟨by rfl, ?hyr1010⟩) hS ?restr1010
    case hyr1010 => (intro wz hSw; (try dsimp only at hSw); go_simp; try with_reducible rfl)
    try simp only [Act.put, List.setIfInBounds_toArray, List.set_cons_zero, List.set_cons_succ]
    refine' wpAnyH_take (i := 13) (oi := ⟨_, _, _, _, _, _⟩) (v := _) rfl (by kernel_rfl) (by kernel_rfl) (by kernel_rfl) (fun _ _ _ h => h) (Or.inl ⟨by rfl, ?hyr1013⟩) hS ?restr1013
    case hyr1013 => (intro wz hSw; (try dsimp only at hSw); go_simp; try with_reducible rfl)
    try simp only [Act.put, List.setIfInBounds_toArray, List.set_cons_zero, List.set_cons_succ]
    refine wpAnyH_ready (rs := [11]) (by kernel_rfl) (by simp) (AllReadyH.cons rfl (fun K hK => ?_) AllReadyH.nil)
    go_simp
    go_at_call 11
    refine (hours.out w19).mono ?_
    rintro e w20 ⟨rfl, q20⟩
    go_wp2_with fail
    refine hK.out _ _ (kp.out _ _ q20 hS) (fun hSn => ?_)
    clear hS
    have hS := hSn
    clear hSn
    clear hK K
    try simp only [Act.put, List.setIfInBounds_toArray, List.set_cons_zero, List.set_cons_succ]
    replace hT := Lib.hid (tabs_next hT.out q20)
    replace rs := Lib.hid (rm_below rs.out q20)
    replace rl := Lib.hid (ri_below rl.out q20)
    replace bs := Lib.hid (blk_below bs.out q20)
    replace ra := Lib.hid (rm_below ra.out q20)
    replace oa := Lib.hid (ri_below oa.out q20)
    replace bt := Lib.hid (blk_below bt.out q20)
    replace rb := Lib.hid (rm_below rb.out q20)
    replace ob := Lib.hid (ri_below ob.out q20)
    replace bu := Lib.hid (blk_below bu.out q20)
    replace rc := Lib.hid (rm_below rc.out q20)
    replace oc := Lib.hid (ri_below oc.out q20)
    replace bv := Lib.hid (blk_below bv.out q20)
    replace rd := Lib.hid (rm_below rd.out q20)
    replace od := Lib.hid (ri_below od.out q20)
    replace bw := Lib.hid (blk_below bw.out q20)
    replace rk := Lib.hid (rm_below rk.out q20)
    replace r2 := Lib.hid (rm_below r2.out q20)
    replace bq := Lib.hid (below_on bq.out q20)
    clear q20
    refine wpAnyH_ready (rs := [12]) (by kernel_rfl) (by simp) (AllReadyH.cons rfl (fun K hK => ?_) AllReadyH.nil)
    go_simp
    go_at_call 20
    refine (hsc.out _ w20 hT.out rs.out).mono ?_
    rintro e w21 ⟨rfl, q21⟩
    go_wp2_with fail
    refine hK.out _ _ (kp.out _ _ q21 hS) (fun hSn => ?_)
    clear hS
    have hS := hSn
    clear hSn
    clear hK K
    try simp only [Act.put, List.setIfInBounds_toArray, List.set_cons_zero, List.set_cons_succ]
    replace hT := Lib.hid (tabs_next hT.out q21)
    replace rs := Lib.hid (rm_below rs.out q21)
    replace rl := Lib.hid (ri_below rl.out q21)
    replace bs := Lib.hid (blk_below bs.out q21)
    replace ra := Lib.hid (rm_below ra.out q21)
    replace oa := Lib.hid (ri_below oa.out q21)
    replace bt := Lib.hid (blk_below bt.out q21)
    replace rb := Lib.hid (rm_below rb.out q21)
    replace ob := Lib.hid (ri_below ob.out q21)
    replace bu := Lib.hid (blk_below bu.out q21)
    replace rc := Lib.hid (rm_below rc.out q21)
    replace oc := Lib.hid (ri_below oc.out q21)
    replace bv := Lib.hid (blk_below bv.out q21)
    replace rd := Lib.hid (rm_below rd.out q21)
    replace od := Lib.hid (ri_below od.out q21)
    replace bw := Lib.hid (blk_below bw.out q21)
    replace rk := Lib.hid (rm_below rk.out q21)
    replace r2 := Lib.hid (rm_below r2.out q21)
    replace bq := Lib.hid (below_on bq.out q21)
    clear q21
    refine wpAnyH_ready (rs := [14]) (by kernel_rfl) (by simp) (AllReadyH.cons rfl (fun K hK => ?_) AllReadyH.nil)
    go_simp
    go_at_call 21
    refine (hrs.out _ w21 rs.out).mono ?_
    rintro e w22 ⟨rfl, q22⟩
    go_wp2_with fail
    refine hK.out _ _ (kp.out _ _ q22 hS) (fun hSn => ?_)
    clear hS
    have hS := hSn
    clear hSn
    clear hK K
    try simp only [Act.put, List.setIfInBounds_toArray, List.set_cons_zero, List.set_cons_succ]
    replace hT := Lib.hid (tabs_next hT.out q22)
    replace rs := Lib.hid (rm_below rs.out q22)
    replace rl := Lib.hid (ri_below rl.out q22)
    replace bs := Lib.hid (blk_below bs.out q22)
    replace ra := Lib.hid (rm_below ra.out q22)
    replace oa := Lib.hid (ri_below oa.out q22)
    replace bt := Lib.hid (blk_below bt.out q22)
    replace rb := Lib.hid (rm_below rb.out q22)
    replace ob := Lib.hid (ri_below ob.out q22)
    replace bu := Lib.hid (blk_below bu.out q22)
    replace rc := Lib.hid (rm_below rc.out q22)
    replace oc := Lib.hid (ri_below oc.out q22)
    replace bv := Lib.hid (blk_below bv.out q22)
    replace rd := Lib.hid (rm_below rd.out q22)
    replace od := Lib.hid (ri_below od.out q22)
    replace bw := Lib.hid (blk_below bw.out q22)
    replace rk := Lib.hid (rm_below rk.out q22)
    replace r2 := Lib.hid (rm_below r2.out q22)
    replace bq := Lib.hid (below_on bq.out q22)
    clear q22
    refine' wpAnyH_take (i := 15) (oi := ⟨_, _, _, _, _, _⟩) (v := _) rfl (by kernel_rfl) (by kernel_rfl) (by kernel_rfl) (fun _ _ _ h => h) (Or.inl ⟨by rfl, ?hyr1015⟩) hS ?restr1015
    case hyr1015 => (intro wz hSw; (try dsimp only at hSw); go_simp; try with_reducible rfl)
    try simp only [Act.put, List.setIfInBounds_toArray, List.set_cons_zero, List.set_cons_succ]
    refine' wpAnyH_take (i := 16) (oi := ⟨_, _, _, _, _, _⟩) (v := _) rfl (by kernel_rfl) (by kernel_rfl) (by kernel_rfl) (fun _ _ _ h => h) (Or.inl ⟨by rfl, ?hyr1016⟩) hS ?restr1016
    case hyr1016 => (intro wz hSw; (try dsimp only at hSw); go_simp; try with_reducible rfl)
    try simp only [Act.put, List.setIfInBounds_toArray, List.set_cons_zero, List.set_cons_succ]
    refine' wpAnyH_take (i := 17) (oi := ⟨_, _, _, _, _, _⟩) (v := _) rfl (by kernel_rfl) (by kernel_rfl) (by kernel_rfl) (fun _ _ _ h => h) (Or.inl ⟨by rfl, ?hyr1017⟩) hS ?restr1017
    case hyr1017 => (intro wz hSw; (try dsimp only at hSw); go_simp; try with_reducible rfl)
    try simp only [Act.put, List.setIfInBounds_toArray, List.set_cons_zero, List.set_cons_succ]
    refine' wpAnyH_take (i := 18) (oi := ⟨_, _, _, _, _, _⟩) (v := _) rfl (by kernel_rfl) (by kernel_rfl) (by kernel_rfl) (fun _ _ _ h => h) (Or.inl ⟨by rfl, ?hyr1018⟩) hS ?restr1018
    case hyr1018 => (intro wz hSw; (try dsimp only at hSw); go_simp; try with_reducible rfl)
    try simp only [Act.put, List.setIfInBounds_toArray, List.set_cons_zero, List.set_cons_succ]
    refine' wpAnyH_take (i := 21) (oi := ⟨_, _, _, _, _, _⟩) (v := _) rfl (by kernel_rfl) (by kernel_rfl) (by kernel_rfl) (fun _ _ _ h => h) (Or.inl ⟨by rfl, ?hyr1021⟩) hS ?restr1021
    case hyr1021 => (intro wz hSw; (try dsimp only at hSw); go_simp; try with_reducible rfl)
    try simp only [Act.put, List.setIfInBounds_toArray, List.set_cons_zero, List.set_cons_succ]
    refine wpAnyH_ready (rs := [19]) (by kernel_rfl) (by simp) (AllReadyH.cons rfl (fun K hK => ?_) AllReadyH.nil)
    go_simp
    go_at_call 11
    refine (hours.out w22).mono ?_
    rintro e w23 ⟨rfl, q23⟩
    go_wp2_with fail
    refine hK.out _ _ (kp.out _ _ q23 hS) (fun hSn => ?_)
    clear hS
    have hS := hSn
    clear hSn
    clear hK K
    try simp only [Act.put, List.setIfInBounds_toArray, List.set_cons_zero, List.set_cons_succ]
    replace hT := Lib.hid (tabs_next hT.out q23)
    replace rs := Lib.hid (rm_below rs.out q23)
    replace rl := Lib.hid (ri_below rl.out q23)
    replace bs := Lib.hid (blk_below bs.out q23)
    replace ra := Lib.hid (rm_below ra.out q23)
    replace oa := Lib.hid (ri_below oa.out q23)
    replace bt := Lib.hid (blk_below bt.out q23)
    replace rb := Lib.hid (rm_below rb.out q23)
    replace ob := Lib.hid (ri_below ob.out q23)
    replace bu := Lib.hid (blk_below bu.out q23)
    replace rc := Lib.hid (rm_below rc.out q23)
    replace oc := Lib.hid (ri_below oc.out q23)
    replace bv := Lib.hid (blk_below bv.out q23)
    replace rd := Lib.hid (rm_below rd.out q23)
    replace od := Lib.hid (ri_below od.out q23)
    replace bw := Lib.hid (blk_below bw.out q23)
    replace rk := Lib.hid (rm_below rk.out q23)
    replace r2 := Lib.hid (rm_below r2.out q23)
    replace bq := Lib.hid (below_on bq.out q23)
    clear q23
    refine wpAnyH_ready (rs := [20]) (by kernel_rfl) (by simp) (AllReadyH.cons rfl (fun K hK => ?_) AllReadyH.nil)
    go_simp
    go_at_call 22
    refine (hcc.out _ w23 hT.out rs.out).mono ?_
    rintro e w24 ⟨rfl, q24⟩
    go_wp2_with fail
    refine hK.out _ _ (kp.out _ _ q24 hS) (fun hSn => ?_)
    clear hS
    have hS := hSn
    clear hSn
    clear hK K
    try simp only [Act.put, List.setIfInBounds_toArray, List.set_cons_zero, List.set_cons_succ]
    replace hT := Lib.hid (tabs_next hT.out q24)
    replace rs := Lib.hid (rm_below rs.out q24)
    replace rl := Lib.hid (ri_below rl.out q24)
    replace bs := Lib.hid (blk_below bs.out q24)
    replace ra := Lib.hid (rm_below ra.out q24)
    replace oa := Lib.hid (ri_below oa.out q24)
    replace bt := Lib.hid (blk_below bt.out q24)
    replace rb := Lib.hid (rm_below rb.out q24)
    replace ob := Lib.hid (ri_below ob.out q24)
    replace bu := Lib.hid (blk_below bu.out q24)
    replace rc := Lib.hid (rm_below rc.out q24)
    replace oc := Lib.hid (ri_below oc.out q24)
    replace bv := Lib.hid (blk_below bv.out q24)
    replace rd := Lib.hid (rm_below rd.out q24)
    replace od := Lib.hid (ri_below od.out q24)
    replace bw := Lib.hid (blk_below bw.out q24)
    replace rk := Lib.hid (rm_below rk.out q24)
    replace r2 := Lib.hid (rm_below r2.out q24)
    replace bq := Lib.hid (below_on bq.out q24)
    clear q24
    refine wpAnyH_ready (rs := [22]) (by kernel_rfl) (by simp) (AllReadyH.cons rfl (fun K hK => ?_) AllReadyH.nil)
    go_simp
    go_at_call 23
    refine (hrc.out _ w24 rs.out).mono ?_
    rintro e w25 ⟨rfl, q25⟩
    go_wp2_with fail
    refine hK.out _ _ (kp.out _ _ q25 hS) (fun hSn => ?_)
    clear hS
    have hS := hSn
    clear hSn
    clear hK K
    try simp only [Act.put, List.setIfInBounds_toArray, List.set_cons_zero, List.set_cons_succ]
    replace hT := Lib.hid (tabs_next hT.out q25)
    replace rs := Lib.hid (rm_below rs.out q25)
    replace rl := Lib.hid (ri_below rl.out q25)
    replace bs := Lib.hid (blk_below bs.out q25)
    replace ra := Lib.hid (rm_below ra.out q25)
    replace oa := Lib.hid (ri_below oa.out q25)
    replace bt := Lib.hid (blk_below bt.out q25)
    replace rb := Lib.hid (rm_below rb.out q25)
    replace ob := Lib.hid (ri_below ob.out q25)
    replace bu := Lib.hid (blk_below bu.out q25)
    replace rc := Lib.hid (rm_below rc.out q25)
    replace oc := Lib.hid (ri_below oc.out q25)
    replace bv := Lib.hid (blk_below bv.out q25)
    replace rd := Lib.hid (rm_below rd.out q25)
    replace od := Lib.hid (ri_below od.out q25)
    replace bw := Lib.hid (blk_below bw.out q25)
    replace rk := Lib.hid (rm_below rk.out q25)
    replace r2 := Lib.hid (rm_below r2.out q25)
    replace bq := Lib.hid (below_on bq.out q25)
    clear q25
    refine' wpAnyH_take (i := 23) (oi := ⟨_, _, _, _, _, _⟩) (v := _) rfl (by kernel_rfl) (by kernel_rfl) (by kernel_rfl) (fun _ _ _ h => h) (Or.inl ⟨by rfl, ?hyr1023⟩) hS ?restr1023
    case hyr1023 => (intro wz hSw; (try dsimp only at hSw); go_simp; try with_reducible rfl)
    try simp only [Act.put, List.setIfInBounds_toArray, List.set_cons_zero, List.set_cons_succ]
    refine' wpAnyH_take (i := 24) (oi := ⟨_, _, _, _, _, _⟩) (v := _) rfl (by kernel_rfl) (by kernel_rfl) (by kernel_rfl) (fun _ _ _ h => h) (Or.inl ⟨by rfl, ?hyr1024⟩) hS ?restr1024
    case hyr1024 => (intro wz hSw; (try dsimp only at hSw); go_simp; try with_reducible rfl)
    try simp only [Act.put, List.setIfInBounds_toArray, List.set_cons_zero, List.set_cons_succ]
    refine' wpAnyH_take (i := 25) (oi := ⟨_, _, _, _, _, _⟩) (v := _) rfl (by kernel_rfl) (by kernel_rfl) (by kernel_rfl) (fun _ _ _ h => h) (Or.inl ⟨by rfl, ?hyr1025⟩) hS ?restr1025
    case hyr1025 => (intro wz hSw; (try dsimp only at hSw); go_simp; try with_reducible rfl)
    try simp only [Act.put, List.setIfInBounds_toArray, List.set_cons_zero, List.set_cons_succ]
    refine' wpAnyH_take (i := 26) (oi := ⟨_, _, _, _, _, _⟩) (v := _) rfl (by kernel_rfl) (by kernel_rfl) (by kernel_rfl) (fun _ _ _ h => h) (Or.inl ⟨by rfl, ?hyr1026⟩) hS ?restr1026
    case hyr1026 => (intro wz hSw; (try dsimp only at hSw); go_simp; try with_reducible rfl)
    try simp only [Act.put, List.setIfInBounds_toArray, List.set_cons_zero, List.set_cons_succ]
    refine' wpAnyH_take (i := 27) (oi := ⟨_, _, _, _, _, _⟩) (v := _) rfl (by kernel_rfl) (by kernel_rfl) (by kernel_rfl) (fun _ _ _ h => h) (Or.inl ⟨by rfl, ?hyr1027⟩) hS ?restr1027
    case hyr1027 => (intro wz hSw; (try dsimp only at hSw); go_simp; try with_reducible rfl)
    try simp only [Act.put, List.setIfInBounds_toArray, List.set_cons_zero, List.set_cons_succ]
    refine' wpAnyH_take (i := 29) (oi := ⟨_, _, _, _, _, _⟩) (v := _) rfl (by kernel_rfl) (by kernel_rfl) (by kernel_rfl) (fun _ _ _ h => h) (Or.inl ⟨by rfl, ?hyr1029⟩) hS ?restr1029
    case hyr1029 => (intro wz hSw; (try dsimp only at hSw); go_simp; try with_reducible rfl)
    try simp only [Act.put, List.setIfInBounds_toArray, List.set_cons_zero, List.set_cons_succ]
    refine' wpAnyH_take (i := 30) (oi := ⟨_, _, _, _, _, _⟩) (v := _) rfl (by kernel_rfl) (by kernel_rfl) (by kernel_rfl) (fun _ _ _ h => h) (Or.inl ⟨by rfl, ?hyr1030⟩) hS ?restr1030
    case hyr1030 => (intro wz hSw; (try dsimp only at hSw); go_simp; try with_reducible rfl)
    try simp only [Act.put, List.setIfInBounds_toArray, List.set_cons_zero, List.set_cons_succ]
    refine wpAnyH_ready (rs := [28]) (by kernel_rfl) (by simp) (AllReadyH.cons rfl (fun K hK => ?_) AllReadyH.nil)
    go_simp
    go_at_call 24
    refine (hac.out _ w25 hT.out rl.out).mono ?_
    rintro e w26 ⟨vy, rfl, ry, q26⟩
    obtain ⟨py, cy, rfl⟩ := ri_form ry
    replace ry := Lib.hid ry
    go_wp2_with fail
    refine hK.out _ _ (kp.out _ _ q26 hS) (fun hSn => ?_)
    clear hS
    have hS := hSn
    clear hSn
    clear hK K
    try simp only [Act.put, List.setIfInBounds_toArray, List.set_cons_zero, List.set_cons_succ]
    replace hT := Lib.hid (tabs_next hT.out q26)
    replace rs := Lib.hid (rm_below rs.out q26)
    replace rl := Lib.hid (ri_below rl.out q26)
    replace bs := Lib.hid (blk_below bs.out q26)
    replace ra := Lib.hid (rm_below ra.out q26)
    replace oa := Lib.hid (ri_below oa.out q26)
    replace bt := Lib.hid (blk_below bt.out q26)
    replace rb := Lib.hid (rm_below rb.out q26)
    replace ob := Lib.hid (ri_below ob.out q26)
    replace bu := Lib.hid (blk_below bu.out q26)
    replace rc := Lib.hid (rm_below rc.out q26)
    replace oc := Lib.hid (ri_below oc.out q26)
    replace bv := Lib.hid (blk_below bv.out q26)
    replace rd := Lib.hid (rm_below rd.out q26)
    replace od := Lib.hid (ri_below od.out q26)
    replace bw := Lib.hid (blk_below bw.out q26)
    replace rk := Lib.hid (rm_below rk.out q26)
    replace r2 := Lib.hid (rm_below r2.out q26)
    replace bq := Lib.hid (below_on bq.out q26)
    clear q26
    refine wpAnyH_ready (rs := [31]) (by kernel_rfl) (by simp) (AllReadyH.cons rfl (fun K hK => ?_) AllReadyH.nil)
    go_simp
    go_at_call 25
    refine (hrl.out _ w26 rl.out).mono ?_
    rintro e w27 ⟨vz, rfl, rz, q27⟩
    obtain ⟨pz, cz, rfl⟩ := ri_form rz
    replace rz := Lib.hid rz
    go_wp2_with fail
    refine hK.out _ _ (kp.out _ _ q27 hS) (fun hSn => ?_)
    clear hS
    have hS := hSn
    clear hSn
    clear hK K
    try simp only [Act.put, List.setIfInBounds_toArray, List.set_cons_zero, List.set_cons_succ]
    replace hT := Lib.hid (tabs_next hT.out q27)
    replace rs := Lib.hid (rm_below rs.out q27)
    replace rl := Lib.hid (ri_below rl.out q27)
    replace bs := Lib.hid (blk_below bs.out q27)
    replace ra := Lib.hid (rm_below ra.out q27)
    replace oa := Lib.hid (ri_below oa.out q27)
    replace bt := Lib.hid (blk_below bt.out q27)
    replace rb := Lib.hid (rm_below rb.out q27)
    replace ob := Lib.hid (ri_below ob.out q27)
    replace bu := Lib.hid (blk_below bu.out q27)
    replace rc := Lib.hid (rm_below rc.out q27)
    replace oc := Lib.hid (ri_below oc.out q27)
    replace bv := Lib.hid (blk_below bv.out q27)
    replace rd := Lib.hid (rm_below rd.out q27)
    replace od := Lib.hid (ri_below od.out q27)
    replace bw := Lib.hid (blk_below bw.out q27)
    replace rk := Lib.hid (rm_below rk.out q27)
    replace r2 := Lib.hid (rm_below r2.out q27)
    replace ry := Lib.hid (ri_below ry.out q27)
    replace bq := Lib.hid (below_on bq.out q27)
    clear q27
    refine wpAnyH_ready (rs := [32]) (by kernel_rfl) (by simp) (AllReadyH.cons rfl (fun K hK => ?_) AllReadyH.nil)
    go_simp
    go_at_call 17
    refine (same_self _ _ A w27 hAl.out ry.out rz.out).mono ?_
    rintro e w28 ⟨rfl, q28⟩
    go_wp2_with fail
    refine hK.out _ _ (kp.out _ _ q28 hS) (fun hSn => ?_)
    clear hS
    have hS := hSn
    clear hSn
    clear hK K
    try simp only [Act.put, List.setIfInBounds_toArray, List.set_cons_zero, List.set_cons_succ]
    replace hT := Lib.hid (tabs_next hT.out q28)
    replace rs := Lib.hid (rm_below rs.out q28)
    replace rl := Lib.hid (ri_below rl.out q28)
    replace bs := Lib.hid (blk_below bs.out q28)
    replace ra := Lib.hid (rm_below ra.out q28)
    replace oa := Lib.hid (ri_below oa.out q28)
    replace bt := Lib.hid (blk_below bt.out q28)
    replace rb := Lib.hid (rm_below rb.out q28)
    replace ob := Lib.hid (ri_below ob.out q28)
    replace bu := Lib.hid (blk_below bu.out q28)
    replace rc := Lib.hid (rm_below rc.out q28)
    replace oc := Lib.hid (ri_below oc.out q28)
    replace bv := Lib.hid (blk_below bv.out q28)
    replace rd := Lib.hid (rm_below rd.out q28)
    replace od := Lib.hid (ri_below od.out q28)
    replace bw := Lib.hid (blk_below bw.out q28)
    replace rk := Lib.hid (rm_below rk.out q28)
    replace r2 := Lib.hid (rm_below r2.out q28)
    replace ry := Lib.hid (ri_below ry.out q28)
    replace rz := Lib.hid (ri_below rz.out q28)
    replace bq := Lib.hid (below_on bq.out q28)
    clear q28
    refine' wpAnyH_take (i := 33) (oi := ⟨_, _, _, _, _, _⟩) (v := _) rfl (by kernel_rfl) (by kernel_rfl) (by kernel_rfl) (fun _ _ _ h => h) (Or.inl ⟨by rfl, ?hyr1033⟩) hS ?restr1033
    case hyr1033 => (intro wz hSw; (try dsimp only at hSw); go_simp; try with_reducible rfl)
    try simp only [Act.put, List.setIfInBounds_toArray, List.set_cons_zero, List.set_cons_succ]
    refine' wpAnyH_take (i := 34) (oi := ⟨_, _, _, _, _, _⟩) (v := _) rfl (by kernel_rfl) (by kernel_rfl) (by kernel_rfl) (fun _ _ _ h => h) (Or.inl ⟨by rfl, ?hyr1034⟩) hS ?restr1034
    case hyr1034 => (intro wz hSw; (try dsimp only at hSw); go_simp; try with_reducible rfl)
    try simp only [Act.put, List.setIfInBounds_toArray, List.set_cons_zero, List.set_cons_succ]
    refine wpAnyH_done (by kernel_rfl) ?_ _
    clear hS
    go_simp
    go_wp2_with fail
    go_ret
    exact ⟨rfl, bq.out⟩
  · have bq := Lib.hid (Below.refl w.heap.size w)
    by_cases hfb : fewB m.d.length m.n.length m.g.length m.c.length = true
    · have ht1 : (60 : Int) < (l.length : Int) := by
        have : ¬ l.length ≤ 60 := fun h => hfw ⟨hfb, h⟩
        omega
      rw [hfb] at hfew
      replace hfew := Lib.hid hfew
      replace hT := Lib.hid hT
      clear hfb hfw hS hSz hv hours hth rs rl hwl hN0 hS0 hF0 hE0 hK0 hA0
      go_enter Tryz.func3, Tryz.ntmps3
      replace hT := Lib.hid (tabs_next hT.out (below_new w (.cells #[.int .i64 m.kind, .string S, .slice pn m.n.length cn, .slice pg m.g.length cg, .bool m.s.on, .int .i64 m.s.kind, .bool m.s.pict, .bool m.s.odd, .slice pc m.c.length cc] 32)))
      replace bq := Lib.hid (below_on bq.out (below_new w (.cells #[.int .i64 m.kind, .string S, .slice pn m.n.length cn, .slice pg m.g.length cg, .bool m.s.on, .int .i64 m.s.kind, .bool m.s.pict, .bool m.s.odd, .slice pc m.c.length cc] 32)))
      have bs := Lib.hid (blk_new w #[.int .i64 m.kind, .string S, .slice pn m.n.length cn, .slice pg m.g.length cg, .bool m.s.on, .int .i64 m.s.kind, .bool m.s.pict, .bool m.s.odd, .slice pc m.c.length cc] 32)
      go_wp2_with fail
      refine (hawake.out (w.alloc (.cells #[.int .i64 m.kind, .string S, .slice pn m.n.length cn, .slice pg m.g.length cg, .bool m.s.on, .int .i64 m.s.kind, .bool m.s.pict, .bool m.s.odd, .slice pc m.c.length cc] 32)) hT.out).mono ?_
      rintro e w2 ⟨rfl, q2⟩
      replace hT := Lib.hid (tabs_next hT.out q2)
      replace bs := Lib.hid (blk_below bs.out q2)
      replace bq := Lib.hid (below_on bq.out q2)
      clear q2
      have bs_0 := blk_cell bs.out 0 _ rfl
      have bs_1 := blk_cell bs.out 1 _ rfl
      have bs_2 := blk_cell bs.out 2 _ rfl
      have bs_3 := blk_cell bs.out 3 _ rfl
      have bs_4 := blk_cell bs.out 4 _ rfl
      have bs_5 := blk_cell bs.out 5 _ rfl
      have bs_6 := blk_cell bs.out 6 _ rfl
      have bs_7 := blk_cell bs.out 7 _ rfl
      have bs_8 := blk_cell bs.out 8 _ rfl
      go_wp2_with fail
      refine (hfew.out w2).mono ?_
      rintro e w3 ⟨rfl, q3⟩
      clear bs_0 bs_1 bs_2 bs_3 bs_4 bs_5 bs_6 bs_7 bs_8
      replace hT := Lib.hid (tabs_next hT.out q3)
      replace bs := Lib.hid (blk_below bs.out q3)
      replace bq := Lib.hid (below_on bq.out q3)
      clear q3
      go_wp2_with fail
      go_ret
      exact ⟨rfl, bq.out⟩
    · rw [Bool.not_eq_true] at hfb
      rw [hfb] at hfew
      replace hfew := Lib.hid hfew
      replace hT := Lib.hid hT
      clear hfb hfw hS hSz hv hours hth rs rl hwl hN0 hS0 hF0 hE0 hK0 hA0
      go_enter Tryz.func3, Tryz.ntmps3
      replace hT := Lib.hid (tabs_next hT.out (below_new w (.cells #[.int .i64 m.kind, .string S, .slice pn m.n.length cn, .slice pg m.g.length cg, .bool m.s.on, .int .i64 m.s.kind, .bool m.s.pict, .bool m.s.odd, .slice pc m.c.length cc] 32)))
      replace bq := Lib.hid (below_on bq.out (below_new w (.cells #[.int .i64 m.kind, .string S, .slice pn m.n.length cn, .slice pg m.g.length cg, .bool m.s.on, .int .i64 m.s.kind, .bool m.s.pict, .bool m.s.odd, .slice pc m.c.length cc] 32)))
      have bs := Lib.hid (blk_new w #[.int .i64 m.kind, .string S, .slice pn m.n.length cn, .slice pg m.g.length cg, .bool m.s.on, .int .i64 m.s.kind, .bool m.s.pict, .bool m.s.odd, .slice pc m.c.length cc] 32)
      go_wp2_with fail
      refine (hawake.out (w.alloc (.cells #[.int .i64 m.kind, .string S, .slice pn m.n.length cn, .slice pg m.g.length cg, .bool m.s.on, .int .i64 m.s.kind, .bool m.s.pict, .bool m.s.odd, .slice pc m.c.length cc] 32)) hT.out).mono ?_
      rintro e w2 ⟨rfl, q2⟩
      replace hT := Lib.hid (tabs_next hT.out q2)
      replace bs := Lib.hid (blk_below bs.out q2)
      replace bq := Lib.hid (below_on bq.out q2)
      clear q2
      have bs_0 := blk_cell bs.out 0 _ rfl
      have bs_1 := blk_cell bs.out 1 _ rfl
      have bs_2 := blk_cell bs.out 2 _ rfl
      have bs_3 := blk_cell bs.out 3 _ rfl
      have bs_4 := blk_cell bs.out 4 _ rfl
      have bs_5 := blk_cell bs.out 5 _ rfl
      have bs_6 := blk_cell bs.out 6 _ rfl
      have bs_7 := blk_cell bs.out 7 _ rfl
      have bs_8 := blk_cell bs.out 8 _ rfl
      go_wp2_with fail
      refine (hfew.out w2).mono ?_
      rintro e w3 ⟨rfl, q3⟩
      clear bs_0 bs_1 bs_2 bs_3 bs_4 bs_5 bs_6 bs_7 bs_8
      replace hT := Lib.hid (tabs_next hT.out q3)
      replace bs := Lib.hid (blk_below bs.out q3)
      replace bq := Lib.hid (below_on bq.out q3)
      clear q3
      go_wp2_with fail
      go_ret
      exact ⟨rfl, bq.out⟩
end Go.Proofs.YtiidjkhkcckmkaaGreatDoor
