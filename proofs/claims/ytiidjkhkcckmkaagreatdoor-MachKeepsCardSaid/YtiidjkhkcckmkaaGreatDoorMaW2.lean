/- Layer 15: the walk of MachKeeps. -/
import Derived.Test.YtiidjkhkcckmkaaGreatDoorMaW0
import Derived.Test.YtiidjkhkcckmkaaGreatDoorFwW0
import Derived.Deep.DeepCutAuto
namespace Go.Proofs.YtiidjkhkcckmkaaGreatDoor
set_option linter.unusedSimpArgs false
set_option linter.unusedVariables false
open Go.RowKit Go.Lib
open Mch (MS)
theorem rm_formK {w : World} {v : Value} {m : MS} {k : Int} (hk : m.kind = k) (h : RM w v m) : ∃ pn cn pg cg pc cc, v = .agg (cellsM k ⟨m.d.toArray⟩ pn m.n.length cn pg m.g.length cg m.s.on m.s.kind m.s.pict m.s.odd pc m.c.length cc) := hk ▸ rm_form h
theorem Mch.as_kind (m : MS) : (Mch.asM m).kind = if 0 ≤ m.kind ∧ m.kind ≤ 4 then m.kind else 0 := by
  unfold Mch.asM
  split
  · rename_i h
    rw [if_pos ((Mch.sane_iff m).1 h).kind]
  · rfl
theorem Mch.small_few {m : MS} (h : fewB m.d.length m.n.length m.g.length m.c.length = true) : Mch.Small m := by
  unfold fewB at h
  simp only [Bool.and_eq_true, decide_eq_true_eq] at h
  exact ⟨by omega, by omega, by omega, by omega⟩
set_option maxHeartbeats 12800000 in
set_option maxRecDepth 100000 in
theorem machKeeps_walk (hN0 : NewC15) (hS0 : SaneC15) (hF0 : FeedC15) (hE0 : EndC15) (hK0 : CostC15) (hA0 : AllC15) (v : Value) (m : MS) (x : Int) (w : World) (hT : Tabs w) (hv : RM w v m) (hx : I64 x) :
    Calls Tryz.prog 5 #[v, .int .i64 x] w fun e w' => e = .returned (.bool true) ∧ Below w.heap.size w w' := by
  have hawake := Lib.hid (fun W h => awake15 hN0 hS0 hF0 hK0 hA0 W h)
  obtain ⟨pn, cn, pg, cg, pc, cc, rfl⟩ := rm_form hv
  obtain ⟨S, hS⟩ : ∃ S : ByteArray, (⟨m.d.toArray⟩ : ByteArray) = S := ⟨_, rfl⟩
  have hSz : S.size = m.d.length := by rw [← hS]; simp [ByteArray.size]
  rw [hS] at hv ⊢
  have hours := fun W => ours15_any m.kind S pn m.n.length cn pg m.g.length cg m.s.on m.s.kind m.s.pict m.s.odd pc m.c.length cc W
  have hfew := fun W => few15_any m.kind S pn m.n.length cn pg m.g.length cg m.s.on m.s.kind m.s.pict m.s.odd pc m.c.length cc W
  rw [hSz] at hfew
  have hn0 := below_new w (.cells (cellsM m.kind S pn m.n.length cn pg m.g.length cg m.s.on m.s.kind m.s.pict m.s.odd pc m.c.length cc) 32)
  have bs := blk_new w (cellsM m.kind S pn m.n.length cn pg m.g.length cg m.s.on m.s.kind m.s.pict m.s.odd pc m.c.length cc) 32
  have rs := rm_below hv hn0
  replace hT := Lib.hid (tabs_next hT hn0)
  have hfd := fun V W t h => fun hs => hF0 V m x W t hs h hx
  have hen := fun V W t h => fun hs => hE0 V m W t hs h
  have hfs := Mch.feed_sane m x
  have hft := Mch.feed_told m x
  have hes := Mch.end_told m
  have hak := Mch.as_kind m
  have hcl := Mch.cost_le (Mch.feedM m x).1
  unfold cellsM at hours hfew hn0 bs rs hv ⊢
  have bq := Lib.hid hn0
  replace hours := Lib.hid hours
  replace bs := Lib.hid bs
  replace rs := Lib.hid rs
  cases hfb : fewB m.d.length m.n.length m.g.length m.c.length with
  | false =>
    rw [hfb] at hfew
    replace hfew := Lib.hid hfew
    clear hfb hfd hen hfs hft hes hak hcl hn0 hv hS hSz hN0 hS0 hF0 hE0 hK0 hA0
    go_enter Tryz.func5, Tryz.ntmps5
    go_wp2_with fail
    refine (hawake.out _ hT.out).mono ?_
    rintro e w1 ⟨rfl, q1⟩
    replace bs := Lib.hid (blk_below bs.out q1)
    replace bq := Lib.hid (below_on bq.out q1)
    clear q1
    have bs_0 := blk_cell bs.out 0 _ rfl
    have bs_1 := blk_cell bs.out 1 _ rfl
    have bs_2 := blk_cell bs.out 2 _ rfl
    have bs_3 := blk_cell bs.out 3 _ rfl
    have bs_4 := blk_cell bs.out 4 _ rfl
    have bs_5 := blk_cell bs.out 5 _ rfl
    have bs_6 := blk_cell bs.out 6 _ rfl
    have bs_7 := blk_cell bs.out 7 _ rfl
    have bs_8 := blk_cell bs.out 8 _ rfl
    go_wp2_with fail
    refine (hfew.out _).mono ?_
    rintro e w2 ⟨rfl, q2⟩
    go_wp2_with fail
    go_ret
    exact ⟨rfl, below_on bq.out q2⟩
  | true =>
    rw [hfb] at hfew
    replace hfew := Lib.hid hfew
    have hsm := Mch.small_few hfb
    replace hfd := fun V W t h => hfd V W t h hsm
    replace hen := fun V W t h => hen V W t h hsm
    obtain ⟨hs1, hs2⟩ := hfs
    obtain ⟨hs3, hs4, hs5, hs6⟩ := hes
    obtain ⟨q, hq⟩ : ∃ q, Mch.feedM m x = q := ⟨_, rfl⟩
    rw [hq] at hfd hs1 hs2 hft hcl
    obtain ⟨q', hq'⟩ : ∃ q, Mch.endM m = q := ⟨_, rfl⟩
    rw [hq'] at hen hs3 hs4 hs5 hs6
    obtain ⟨t, o⟩ := q
    obtain ⟨u, r⟩ := q'
    dsimp only at hfd hs1 hs2 hft hcl hen hs3 hs4 hs5 hs6
    have hst := fun V W T h => hS0 V t W T (Mch.small_sane hs1) h
    have hsu := fun V W T h => hS0 V u W T (Mch.small_sane hs4) h
    have hct := fun V W T h => hK0 V t W T (Mch.small_sane hs1) h
    have hcu := fun V W T h => hK0 V u W T (Mch.small_sane hs4) h
    rw [hs1] at hst
    rw [hs4] at hsu
    rw [hs6] at hcu
    obtain ⟨N, hN⟩ : ∃ N, Mch.costM t = N := ⟨_, rfl⟩
    rw [hN] at hct hcl
    have hN1 : decide ((N : Int) ≤ 32) = true := decide_eq_true (by omega)
    have ho1 : decide ((o.length : Int) ≤ 140) = true := decide_eq_true (by omega)
    have hr1 : decide ((r.length : Int) ≤ 33) = true := decide_eq_true (by omega)
    rw [hak] at hs2 hs5
    unfold FedM at hfd hen
    dsimp only at hfd hen
    replace hfd := Lib.hid hfd
    replace hen := Lib.hid hen
    replace hst := Lib.hid hst
    replace hsu := Lib.hid hsu
    replace hct := Lib.hid hct
    replace hcu := Lib.hid (show ∀ (V : Value) (W : World) (T : Tabs W) (h : RM W V u), Calls Tryz.prog 22 #[V] W fun e w' => e = .returned (.int .i64 0) ∧ Below W.heap.size W w' from hcu)
    clear hfb hq hq' hN hs1 hs3 hs4 hs6 hak hcl hft hn0 hv hS hSz hN0 hS0 hF0 hE0 hK0 hA0 hsm
    by_cases hk : 0 ≤ m.kind ∧ m.kind ≤ 4
    · rw [if_pos hk] at hs2 hs5
      have ht := Lib.hid hs2
      have hu := Lib.hid hs5
      have hk1 : decide (m.kind < 0) = false := decide_eq_false (by omega)
      have hk2 : decide (4 < m.kind) = false := decide_eq_false (by omega)
      clear hs2 hs5 hk
      go_enter Tryz.func5, Tryz.ntmps5
      go_wp2_with fail
      refine (hawake.out _ hT.out).mono ?_
      rintro e w2 ⟨rfl, q2⟩
      replace hT := Lib.hid (tabs_next hT.out q2)
      replace rs := Lib.hid (rm_below rs.out q2)
      replace bs := Lib.hid (blk_below bs.out q2)
      replace bq := Lib.hid (below_on bq.out q2)
      clear q2
      have bs_0 := blk_cell bs.out 0 _ rfl
      have bs_1 := blk_cell bs.out 1 _ rfl
      have bs_2 := blk_cell bs.out 2 _ rfl
      have bs_3 := blk_cell bs.out 3 _ rfl
      have bs_4 := blk_cell bs.out 4 _ rfl
      have bs_5 := blk_cell bs.out 5 _ rfl
      have bs_6 := blk_cell bs.out 6 _ rfl
      have bs_7 := blk_cell bs.out 7 _ rfl
      have bs_8 := blk_cell bs.out 8 _ rfl
      go_wp2_with fail
      refine (hfew.out _).mono ?_
      rintro e w3 ⟨rfl, q3⟩
      clear bs_0 bs_1 bs_2 bs_3 bs_4 bs_5 bs_6 bs_7 bs_8
      replace hT := Lib.hid (tabs_next hT.out q3)
      replace rs := Lib.hid (rm_below rs.out q3)
      replace bs := Lib.hid (blk_below bs.out q3)
      replace bq := Lib.hid (below_on bq.out q3)
      clear q3
      have bs_0 := blk_cell bs.out 0 _ rfl
      have bs_1 := blk_cell bs.out 1 _ rfl
      have bs_2 := blk_cell bs.out 2 _ rfl
      have bs_3 := blk_cell bs.out 3 _ rfl
      have bs_4 := blk_cell bs.out 4 _ rfl
      have bs_5 := blk_cell bs.out 5 _ rfl
      have bs_6 := blk_cell bs.out 6 _ rfl
      have bs_7 := blk_cell bs.out 7 _ rfl
      have bs_8 := blk_cell bs.out 8 _ rfl
      go_wp2_with fail
      refine (hours.out _).mono ?_
      rintro e w4 ⟨rfl, q4⟩
      clear bs_0 bs_1 bs_2 bs_3 bs_4 bs_5 bs_6 bs_7 bs_8
      replace hT := Lib.hid (tabs_next hT.out q4)
      replace rs := Lib.hid (rm_below rs.out q4)
      replace bs := Lib.hid (blk_below bs.out q4)
      replace bq := Lib.hid (below_on bq.out q4)
      clear q4
      go_wp2_with fail
      refine (hfd.out _ _ hT.out rs.out).mono ?_
      rintro e w5 ⟨vt, vo, rfl, rt, ro, _, q5⟩
      replace hT := Lib.hid (tabs_next hT.out q5)
      replace rs := Lib.hid (rm_below rs.out q5)
      replace bs := Lib.hid (blk_below bs.out q5)
      replace bq := Lib.hid (below_on bq.out q5)
      obtain ⟨pan, can, pag, cag, pac, cac, rfl⟩ := rm_formK ht.out rt
      unfold cellsM at rt ⊢
      obtain ⟨po, co, rfl⟩ := ri_form ro
      replace rt := Lib.hid rt
      clear ro
      clear q5
      have hn := below_new w5 (.cells #[.int .i64 m.kind, .string ⟨t.d.toArray⟩, .slice pan t.n.length can, .slice pag t.g.length cag, .bool t.s.on, .int .i64 t.s.kind, .bool t.s.pict, .bool t.s.odd, .slice pac t.c.length cac] 41)
      have bt := Lib.hid (blk_new w5 #[.int .i64 m.kind, .string ⟨t.d.toArray⟩, .slice pan t.n.length can, .slice pag t.g.length cag, .bool t.s.on, .int .i64 t.s.kind, .bool t.s.pict, .bool t.s.odd, .slice pac t.c.length cac] 41)
      replace hT := Lib.hid (tabs_next hT.out hn)
      replace rs := Lib.hid (rm_below rs.out hn)
      replace bs := Lib.hid (blk_below bs.out hn)
      replace rt := Lib.hid (rm_below rt.out hn)
      replace bq := Lib.hid (below_on bq.out hn)
      clear hn
      have bs_0 := blk_cell bs.out 0 _ rfl
      have bs_1 := blk_cell bs.out 1 _ rfl
      have bs_2 := blk_cell bs.out 2 _ rfl
      have bs_3 := blk_cell bs.out 3 _ rfl
      have bs_4 := blk_cell bs.out 4 _ rfl
      have bs_5 := blk_cell bs.out 5 _ rfl
      have bs_6 := blk_cell bs.out 6 _ rfl
      have bs_7 := blk_cell bs.out 7 _ rfl
      have bs_8 := blk_cell bs.out 8 _ rfl
      go_wp2_with fail
      refine (hours.out _).mono ?_
      rintro e w6 ⟨rfl, q6⟩
      clear bs_0 bs_1 bs_2 bs_3 bs_4 bs_5 bs_6 bs_7 bs_8
      replace hT := Lib.hid (tabs_next hT.out q6)
      replace rs := Lib.hid (rm_below rs.out q6)
      replace bs := Lib.hid (blk_below bs.out q6)
      replace rt := Lib.hid (rm_below rt.out q6)
      replace bt := Lib.hid (blk_below bt.out q6)
      replace bq := Lib.hid (below_on bq.out q6)
      clear q6
      go_wp2_with fail
      refine (hen.out _ _ hT.out rs.out).mono ?_
      rintro e w7 ⟨vu, vp, rfl, ru, rp, _, q7⟩
      replace hT := Lib.hid (tabs_next hT.out q7)
      replace rs := Lib.hid (rm_below rs.out q7)
      replace bs := Lib.hid (blk_below bs.out q7)
      replace rt := Lib.hid (rm_below rt.out q7)
      replace bt := Lib.hid (blk_below bt.out q7)
      replace bq := Lib.hid (below_on bq.out q7)
      obtain ⟨pbn, cbn, pbg, cbg, pbc, cbc, rfl⟩ := rm_formK hu.out ru
      unfold cellsM at ru ⊢
      obtain ⟨pp, cp, rfl⟩ := ri_form rp
      replace ru := Lib.hid ru
      clear rp
      clear q7
      have hn := below_new w7 (.cells #[.int .i64 m.kind, .string ⟨u.d.toArray⟩, .slice pbn u.n.length cbn, .slice pbg u.g.length cbg, .bool u.s.on, .int .i64 u.s.kind, .bool u.s.pict, .bool u.s.odd, .slice pbc u.c.length cbc] 41)
      have bu := Lib.hid (blk_new w7 #[.int .i64 m.kind, .string ⟨u.d.toArray⟩, .slice pbn u.n.length cbn, .slice pbg u.g.length cbg, .bool u.s.on, .int .i64 u.s.kind, .bool u.s.pict, .bool u.s.odd, .slice pbc u.c.length cbc] 41)
      replace hT := Lib.hid (tabs_next hT.out hn)
      replace rs := Lib.hid (rm_below rs.out hn)
      replace bs := Lib.hid (blk_below bs.out hn)
      replace rt := Lib.hid (rm_below rt.out hn)
      replace bt := Lib.hid (blk_below bt.out hn)
      replace ru := Lib.hid (rm_below ru.out hn)
      replace bq := Lib.hid (below_on bq.out hn)
      clear hn
      have bs_0 := blk_cell bs.out 0 _ rfl
      have bt_0 := blk_cell bt.out 0 _ rfl
      have bt_1 := blk_cell bt.out 1 _ rfl
      have bt_2 := blk_cell bt.out 2 _ rfl
      have bt_3 := blk_cell bt.out 3 _ rfl
      have bt_4 := blk_cell bt.out 4 _ rfl
      have bt_5 := blk_cell bt.out 5 _ rfl
      have bt_6 := blk_cell bt.out 6 _ rfl
      have bt_7 := blk_cell bt.out 7 _ rfl
      have bt_8 := blk_cell bt.out 8 _ rfl
      go_wp2_with fail
      refine (hst.out _ _ hT.out rt.out).mono ?_
      rintro e w8 ⟨rfl, q8⟩
      clear bs_0 bt_0 bt_1 bt_2 bt_3 bt_4 bt_5 bt_6 bt_7 bt_8
      replace hT := Lib.hid (tabs_next hT.out q8)
      replace rs := Lib.hid (rm_below rs.out q8)
      replace bs := Lib.hid (blk_below bs.out q8)
      replace rt := Lib.hid (rm_below rt.out q8)
      replace bt := Lib.hid (blk_below bt.out q8)
      replace ru := Lib.hid (rm_below ru.out q8)
      replace bu := Lib.hid (blk_below bu.out q8)
      replace bq := Lib.hid (below_on bq.out q8)
      clear q8
      have bu_0 := blk_cell bu.out 0 _ rfl
      have bu_1 := blk_cell bu.out 1 _ rfl
      have bu_2 := blk_cell bu.out 2 _ rfl
      have bu_3 := blk_cell bu.out 3 _ rfl
      have bu_4 := blk_cell bu.out 4 _ rfl
      have bu_5 := blk_cell bu.out 5 _ rfl
      have bu_6 := blk_cell bu.out 6 _ rfl
      have bu_7 := blk_cell bu.out 7 _ rfl
      have bu_8 := blk_cell bu.out 8 _ rfl
      go_wp2_with fail
      refine (hsu.out _ _ hT.out ru.out).mono ?_
      rintro e w9 ⟨rfl, q9⟩
      clear bu_0 bu_1 bu_2 bu_3 bu_4 bu_5 bu_6 bu_7 bu_8
      replace hT := Lib.hid (tabs_next hT.out q9)
      replace rs := Lib.hid (rm_below rs.out q9)
      replace bs := Lib.hid (blk_below bs.out q9)
      replace rt := Lib.hid (rm_below rt.out q9)
      replace bt := Lib.hid (blk_below bt.out q9)
      replace ru := Lib.hid (rm_below ru.out q9)
      replace bu := Lib.hid (blk_below bu.out q9)
      replace bq := Lib.hid (below_on bq.out q9)
      clear q9
      have bt_0 := blk_cell bt.out 0 _ rfl
      have bt_1 := blk_cell bt.out 1 _ rfl
      have bt_2 := blk_cell bt.out 2 _ rfl
      have bt_3 := blk_cell bt.out 3 _ rfl
      have bt_4 := blk_cell bt.out 4 _ rfl
      have bt_5 := blk_cell bt.out 5 _ rfl
      have bt_6 := blk_cell bt.out 6 _ rfl
      have bt_7 := blk_cell bt.out 7 _ rfl
      have bt_8 := blk_cell bt.out 8 _ rfl
      have bu_0 := blk_cell bu.out 0 _ rfl
      go_wp2_with fail
      refine (hct.out _ _ hT.out rt.out).mono ?_
      rintro e w10 ⟨rfl, q10⟩
      clear bt_0 bt_1 bt_2 bt_3 bt_4 bt_5 bt_6 bt_7 bt_8 bu_0
      replace hT := Lib.hid (tabs_next hT.out q10)
      replace rs := Lib.hid (rm_below rs.out q10)
      replace bs := Lib.hid (blk_below bs.out q10)
      replace rt := Lib.hid (rm_below rt.out q10)
      replace bt := Lib.hid (blk_below bt.out q10)
      replace ru := Lib.hid (rm_below ru.out q10)
      replace bu := Lib.hid (blk_below bu.out q10)
      replace bq := Lib.hid (below_on bq.out q10)
      clear q10
      have bu_0 := blk_cell bu.out 0 _ rfl
      have bu_1 := blk_cell bu.out 1 _ rfl
      have bu_2 := blk_cell bu.out 2 _ rfl
      have bu_3 := blk_cell bu.out 3 _ rfl
      have bu_4 := blk_cell bu.out 4 _ rfl
      have bu_5 := blk_cell bu.out 5 _ rfl
      have bu_6 := blk_cell bu.out 6 _ rfl
      have bu_7 := blk_cell bu.out 7 _ rfl
      have bu_8 := blk_cell bu.out 8 _ rfl
      go_wp2_with fail
      refine (hcu.out _ _ hT.out ru.out).mono ?_
      rintro e w11 ⟨rfl, q11⟩
      clear bu_0 bu_1 bu_2 bu_3 bu_4 bu_5 bu_6 bu_7 bu_8
      replace hT := Lib.hid (tabs_next hT.out q11)
      replace rs := Lib.hid (rm_below rs.out q11)
      replace bs := Lib.hid (blk_below bs.out q11)
      replace rt := Lib.hid (rm_below rt.out q11)
      replace bt := Lib.hid (blk_below bt.out q11)
      replace ru := Lib.hid (rm_below ru.out q11)
      replace bu := Lib.hid (blk_below bu.out q11)
      replace bq := Lib.hid (below_on bq.out q11)
      clear q11
      go_wp2_with fail
      go_ret
      exact ⟨rfl, bq.out⟩
    · rw [if_neg hk] at hs2 hs5
      have ht := Lib.hid hs2
      have hu := Lib.hid hs5
      by_cases hk0 : m.kind < 0
      · have hk1 : decide (m.kind < 0) = true := decide_eq_true hk0
        clear hs2 hs5 hk hk0
        go_enter Tryz.func5, Tryz.ntmps5
        go_wp2_with fail
        refine (hawake.out _ hT.out).mono ?_
        rintro e w2 ⟨rfl, q2⟩
        replace hT := Lib.hid (tabs_next hT.out q2)
        replace rs := Lib.hid (rm_below rs.out q2)
        replace bs := Lib.hid (blk_below bs.out q2)
        replace bq := Lib.hid (below_on bq.out q2)
        clear q2
        have bs_0 := blk_cell bs.out 0 _ rfl
        have bs_1 := blk_cell bs.out 1 _ rfl
        have bs_2 := blk_cell bs.out 2 _ rfl
        have bs_3 := blk_cell bs.out 3 _ rfl
        have bs_4 := blk_cell bs.out 4 _ rfl
        have bs_5 := blk_cell bs.out 5 _ rfl
        have bs_6 := blk_cell bs.out 6 _ rfl
        have bs_7 := blk_cell bs.out 7 _ rfl
        have bs_8 := blk_cell bs.out 8 _ rfl
        go_wp2_with fail
        refine (hfew.out _).mono ?_
        rintro e w3 ⟨rfl, q3⟩
        clear bs_0 bs_1 bs_2 bs_3 bs_4 bs_5 bs_6 bs_7 bs_8
        replace hT := Lib.hid (tabs_next hT.out q3)
        replace rs := Lib.hid (rm_below rs.out q3)
        replace bs := Lib.hid (blk_below bs.out q3)
        replace bq := Lib.hid (below_on bq.out q3)
        clear q3
        have bs_0 := blk_cell bs.out 0 _ rfl
        have bs_1 := blk_cell bs.out 1 _ rfl
        have bs_2 := blk_cell bs.out 2 _ rfl
        have bs_3 := blk_cell bs.out 3 _ rfl
        have bs_4 := blk_cell bs.out 4 _ rfl
        have bs_5 := blk_cell bs.out 5 _ rfl
        have bs_6 := blk_cell bs.out 6 _ rfl
        have bs_7 := blk_cell bs.out 7 _ rfl
        have bs_8 := blk_cell bs.out 8 _ rfl
        go_wp2_with fail
        refine (hours.out _).mono ?_
        rintro e w4 ⟨rfl, q4⟩
        clear bs_0 bs_1 bs_2 bs_3 bs_4 bs_5 bs_6 bs_7 bs_8
        replace hT := Lib.hid (tabs_next hT.out q4)
        replace rs := Lib.hid (rm_below rs.out q4)
        replace bs := Lib.hid (blk_below bs.out q4)
        replace bq := Lib.hid (below_on bq.out q4)
        clear q4
        go_wp2_with fail
        refine (hfd.out _ _ hT.out rs.out).mono ?_
        rintro e w5 ⟨vt, vo, rfl, rt, ro, _, q5⟩
        replace hT := Lib.hid (tabs_next hT.out q5)
        replace rs := Lib.hid (rm_below rs.out q5)
        replace bs := Lib.hid (blk_below bs.out q5)
        replace bq := Lib.hid (below_on bq.out q5)
        obtain ⟨pan, can, pag, cag, pac, cac, rfl⟩ := rm_formK ht.out rt
        unfold cellsM at rt ⊢
        obtain ⟨po, co, rfl⟩ := ri_form ro
        replace rt := Lib.hid rt
        clear ro
        clear q5
        have hn := below_new w5 (.cells #[.int .i64 0, .string ⟨t.d.toArray⟩, .slice pan t.n.length can, .slice pag t.g.length cag, .bool t.s.on, .int .i64 t.s.kind, .bool t.s.pict, .bool t.s.odd, .slice pac t.c.length cac] 41)
        have bt := Lib.hid (blk_new w5 #[.int .i64 0, .string ⟨t.d.toArray⟩, .slice pan t.n.length can, .slice pag t.g.length cag, .bool t.s.on, .int .i64 t.s.kind, .bool t.s.pict, .bool t.s.odd, .slice pac t.c.length cac] 41)
        replace hT := Lib.hid (tabs_next hT.out hn)
        replace rs := Lib.hid (rm_below rs.out hn)
        replace bs := Lib.hid (blk_below bs.out hn)
        replace rt := Lib.hid (rm_below rt.out hn)
        replace bq := Lib.hid (below_on bq.out hn)
        clear hn
        have bs_0 := blk_cell bs.out 0 _ rfl
        have bs_1 := blk_cell bs.out 1 _ rfl
        have bs_2 := blk_cell bs.out 2 _ rfl
        have bs_3 := blk_cell bs.out 3 _ rfl
        have bs_4 := blk_cell bs.out 4 _ rfl
        have bs_5 := blk_cell bs.out 5 _ rfl
        have bs_6 := blk_cell bs.out 6 _ rfl
        have bs_7 := blk_cell bs.out 7 _ rfl
        have bs_8 := blk_cell bs.out 8 _ rfl
        go_wp2_with fail
        refine (hours.out _).mono ?_
        rintro e w6 ⟨rfl, q6⟩
        clear bs_0 bs_1 bs_2 bs_3 bs_4 bs_5 bs_6 bs_7 bs_8
        replace hT := Lib.hid (tabs_next hT.out q6)
        replace rs := Lib.hid (rm_below rs.out q6)
        replace bs := Lib.hid (blk_below bs.out q6)
        replace rt := Lib.hid (rm_below rt.out q6)
        replace bt := Lib.hid (blk_below bt.out q6)
        replace bq := Lib.hid (below_on bq.out q6)
        clear q6
        go_wp2_with fail
        refine (hen.out _ _ hT.out rs.out).mono ?_
        rintro e w7 ⟨vu, vp, rfl, ru, rp, _, q7⟩
        replace hT := Lib.hid (tabs_next hT.out q7)
        replace rs := Lib.hid (rm_below rs.out q7)
        replace bs := Lib.hid (blk_below bs.out q7)
        replace rt := Lib.hid (rm_below rt.out q7)
        replace bt := Lib.hid (blk_below bt.out q7)
        replace bq := Lib.hid (below_on bq.out q7)
        obtain ⟨pbn, cbn, pbg, cbg, pbc, cbc, rfl⟩ := rm_formK hu.out ru
        unfold cellsM at ru ⊢
        obtain ⟨pp, cp, rfl⟩ := ri_form rp
        replace ru := Lib.hid ru
        clear rp
        clear q7
        have hn := below_new w7 (.cells #[.int .i64 0, .string ⟨u.d.toArray⟩, .slice pbn u.n.length cbn, .slice pbg u.g.length cbg, .bool u.s.on, .int .i64 u.s.kind, .bool u.s.pict, .bool u.s.odd, .slice pbc u.c.length cbc] 41)
        have bu := Lib.hid (blk_new w7 #[.int .i64 0, .string ⟨u.d.toArray⟩, .slice pbn u.n.length cbn, .slice pbg u.g.length cbg, .bool u.s.on, .int .i64 u.s.kind, .bool u.s.pict, .bool u.s.odd, .slice pbc u.c.length cbc] 41)
        replace hT := Lib.hid (tabs_next hT.out hn)
        replace rs := Lib.hid (rm_below rs.out hn)
        replace bs := Lib.hid (blk_below bs.out hn)
        replace rt := Lib.hid (rm_below rt.out hn)
        replace bt := Lib.hid (blk_below bt.out hn)
        replace ru := Lib.hid (rm_below ru.out hn)
        replace bq := Lib.hid (below_on bq.out hn)
        clear hn
        have bs_0 := blk_cell bs.out 0 _ rfl
        have bt_0 := blk_cell bt.out 0 _ rfl
        have bt_1 := blk_cell bt.out 1 _ rfl
        have bt_2 := blk_cell bt.out 2 _ rfl
        have bt_3 := blk_cell bt.out 3 _ rfl
        have bt_4 := blk_cell bt.out 4 _ rfl
        have bt_5 := blk_cell bt.out 5 _ rfl
        have bt_6 := blk_cell bt.out 6 _ rfl
        have bt_7 := blk_cell bt.out 7 _ rfl
        have bt_8 := blk_cell bt.out 8 _ rfl
        go_wp2_with fail
        refine (hst.out _ _ hT.out rt.out).mono ?_
        rintro e w8 ⟨rfl, q8⟩
        clear bs_0 bt_0 bt_1 bt_2 bt_3 bt_4 bt_5 bt_6 bt_7 bt_8
        replace hT := Lib.hid (tabs_next hT.out q8)
        replace rs := Lib.hid (rm_below rs.out q8)
        replace bs := Lib.hid (blk_below bs.out q8)
        replace rt := Lib.hid (rm_below rt.out q8)
        replace bt := Lib.hid (blk_below bt.out q8)
        replace ru := Lib.hid (rm_below ru.out q8)
        replace bu := Lib.hid (blk_below bu.out q8)
        replace bq := Lib.hid (below_on bq.out q8)
        clear q8
        have bu_0 := blk_cell bu.out 0 _ rfl
        have bu_1 := blk_cell bu.out 1 _ rfl
        have bu_2 := blk_cell bu.out 2 _ rfl
        have bu_3 := blk_cell bu.out 3 _ rfl
        have bu_4 := blk_cell bu.out 4 _ rfl
        have bu_5 := blk_cell bu.out 5 _ rfl
        have bu_6 := blk_cell bu.out 6 _ rfl
        have bu_7 := blk_cell bu.out 7 _ rfl
        have bu_8 := blk_cell bu.out 8 _ rfl
        go_wp2_with fail
        refine (hsu.out _ _ hT.out ru.out).mono ?_
        rintro e w9 ⟨rfl, q9⟩
        clear bu_0 bu_1 bu_2 bu_3 bu_4 bu_5 bu_6 bu_7 bu_8
        replace hT := Lib.hid (tabs_next hT.out q9)
        replace rs := Lib.hid (rm_below rs.out q9)
        replace bs := Lib.hid (blk_below bs.out q9)
        replace rt := Lib.hid (rm_below rt.out q9)
        replace bt := Lib.hid (blk_below bt.out q9)
        replace ru := Lib.hid (rm_below ru.out q9)
        replace bu := Lib.hid (blk_below bu.out q9)
        replace bq := Lib.hid (below_on bq.out q9)
        clear q9
        have bt_0 := blk_cell bt.out 0 _ rfl
        have bt_1 := blk_cell bt.out 1 _ rfl
        have bt_2 := blk_cell bt.out 2 _ rfl
        have bt_3 := blk_cell bt.out 3 _ rfl
        have bt_4 := blk_cell bt.out 4 _ rfl
        have bt_5 := blk_cell bt.out 5 _ rfl
        have bt_6 := blk_cell bt.out 6 _ rfl
        have bt_7 := blk_cell bt.out 7 _ rfl
        have bt_8 := blk_cell bt.out 8 _ rfl
        have bu_0 := blk_cell bu.out 0 _ rfl
        go_wp2_with fail
        refine (hct.out _ _ hT.out rt.out).mono ?_
        rintro e w10 ⟨rfl, q10⟩
        clear bt_0 bt_1 bt_2 bt_3 bt_4 bt_5 bt_6 bt_7 bt_8 bu_0
        replace hT := Lib.hid (tabs_next hT.out q10)
        replace rs := Lib.hid (rm_below rs.out q10)
        replace bs := Lib.hid (blk_below bs.out q10)
        replace rt := Lib.hid (rm_below rt.out q10)
        replace bt := Lib.hid (blk_below bt.out q10)
        replace ru := Lib.hid (rm_below ru.out q10)
        replace bu := Lib.hid (blk_below bu.out q10)
        replace bq := Lib.hid (below_on bq.out q10)
        clear q10
        have bu_0 := blk_cell bu.out 0 _ rfl
        have bu_1 := blk_cell bu.out 1 _ rfl
        have bu_2 := blk_cell bu.out 2 _ rfl
        have bu_3 := blk_cell bu.out 3 _ rfl
        have bu_4 := blk_cell bu.out 4 _ rfl
        have bu_5 := blk_cell bu.out 5 _ rfl
        have bu_6 := blk_cell bu.out 6 _ rfl
        have bu_7 := blk_cell bu.out 7 _ rfl
        have bu_8 := blk_cell bu.out 8 _ rfl
        go_wp2_with fail
        refine (hcu.out _ _ hT.out ru.out).mono ?_
        rintro e w11 ⟨rfl, q11⟩
        clear bu_0 bu_1 bu_2 bu_3 bu_4 bu_5 bu_6 bu_7 bu_8
        replace hT := Lib.hid (tabs_next hT.out q11)
        replace rs := Lib.hid (rm_below rs.out q11)
        replace bs := Lib.hid (blk_below bs.out q11)
        replace rt := Lib.hid (rm_below rt.out q11)
        replace bt := Lib.hid (blk_below bt.out q11)
        replace ru := Lib.hid (rm_below ru.out q11)
        replace bu := Lib.hid (blk_below bu.out q11)
        replace bq := Lib.hid (below_on bq.out q11)
        clear q11
        go_wp2_with fail
        go_ret
        exact ⟨rfl, bq.out⟩
      · have hk1 : decide (m.kind < 0) = false := decide_eq_false hk0
        have hk2 : decide (4 < m.kind) = true := decide_eq_true (by omega)
        clear hs2 hs5 hk hk0
        go_enter Tryz.func5, Tryz.ntmps5
        go_wp2_with fail
        refine (hawake.out _ hT.out).mono ?_
        rintro e w2 ⟨rfl, q2⟩
        replace hT := Lib.hid (tabs_next hT.out q2)
        replace rs := Lib.hid (rm_below rs.out q2)
        replace bs := Lib.hid (blk_below bs.out q2)
        replace bq := Lib.hid (below_on bq.out q2)
        clear q2
        have bs_0 := blk_cell bs.out 0 _ rfl
        have bs_1 := blk_cell bs.out 1 _ rfl
        have bs_2 := blk_cell bs.out 2 _ rfl
        have bs_3 := blk_cell bs.out 3 _ rfl
        have bs_4 := blk_cell bs.out 4 _ rfl
        have bs_5 := blk_cell bs.out 5 _ rfl
        have bs_6 := blk_cell bs.out 6 _ rfl
        have bs_7 := blk_cell bs.out 7 _ rfl
        have bs_8 := blk_cell bs.out 8 _ rfl
        go_wp2_with fail
        refine (hfew.out _).mono ?_
        rintro e w3 ⟨rfl, q3⟩
        clear bs_0 bs_1 bs_2 bs_3 bs_4 bs_5 bs_6 bs_7 bs_8
        replace hT := Lib.hid (tabs_next hT.out q3)
        replace rs := Lib.hid (rm_below rs.out q3)
        replace bs := Lib.hid (blk_below bs.out q3)
        replace bq := Lib.hid (below_on bq.out q3)
        clear q3
        have bs_0 := blk_cell bs.out 0 _ rfl
        have bs_1 := blk_cell bs.out 1 _ rfl
        have bs_2 := blk_cell bs.out 2 _ rfl
        have bs_3 := blk_cell bs.out 3 _ rfl
        have bs_4 := blk_cell bs.out 4 _ rfl
        have bs_5 := blk_cell bs.out 5 _ rfl
        have bs_6 := blk_cell bs.out 6 _ rfl
        have bs_7 := blk_cell bs.out 7 _ rfl
        have bs_8 := blk_cell bs.out 8 _ rfl
        go_wp2_with fail
        refine (hours.out _).mono ?_
        rintro e w4 ⟨rfl, q4⟩
        clear bs_0 bs_1 bs_2 bs_3 bs_4 bs_5 bs_6 bs_7 bs_8
        replace hT := Lib.hid (tabs_next hT.out q4)
        replace rs := Lib.hid (rm_below rs.out q4)
        replace bs := Lib.hid (blk_below bs.out q4)
        replace bq := Lib.hid (below_on bq.out q4)
        clear q4
        go_wp2_with fail
        refine (hfd.out _ _ hT.out rs.out).mono ?_
        rintro e w5 ⟨vt, vo, rfl, rt, ro, _, q5⟩
        replace hT := Lib.hid (tabs_next hT.out q5)
        replace rs := Lib.hid (rm_below rs.out q5)
        replace bs := Lib.hid (blk_below bs.out q5)
        replace bq := Lib.hid (below_on bq.out q5)
        obtain ⟨pan, can, pag, cag, pac, cac, rfl⟩ := rm_formK ht.out rt
        unfold cellsM at rt ⊢
        obtain ⟨po, co, rfl⟩ := ri_form ro
        replace rt := Lib.hid rt
        clear ro
        clear q5
        have hn := below_new w5 (.cells #[.int .i64 0, .string ⟨t.d.toArray⟩, .slice pan t.n.length can, .slice pag t.g.length cag, .bool t.s.on, .int .i64 t.s.kind, .bool t.s.pict, .bool t.s.odd, .slice pac t.c.length cac] 41)
        have bt := Lib.hid (blk_new w5 #[.int .i64 0, .string ⟨t.d.toArray⟩, .slice pan t.n.length can, .slice pag t.g.length cag, .bool t.s.on, .int .i64 t.s.kind, .bool t.s.pict, .bool t.s.odd, .slice pac t.c.length cac] 41)
        replace hT := Lib.hid (tabs_next hT.out hn)
        replace rs := Lib.hid (rm_below rs.out hn)
        replace bs := Lib.hid (blk_below bs.out hn)
        replace rt := Lib.hid (rm_below rt.out hn)
        replace bq := Lib.hid (below_on bq.out hn)
        clear hn
        have bs_0 := blk_cell bs.out 0 _ rfl
        have bs_1 := blk_cell bs.out 1 _ rfl
        have bs_2 := blk_cell bs.out 2 _ rfl
        have bs_3 := blk_cell bs.out 3 _ rfl
        have bs_4 := blk_cell bs.out 4 _ rfl
        have bs_5 := blk_cell bs.out 5 _ rfl
        have bs_6 := blk_cell bs.out 6 _ rfl
        have bs_7 := blk_cell bs.out 7 _ rfl
        have bs_8 := blk_cell bs.out 8 _ rfl
        go_wp2_with fail
        refine (hours.out _).mono ?_
        rintro e w6 ⟨rfl, q6⟩
        clear bs_0 bs_1 bs_2 bs_3 bs_4 bs_5 bs_6 bs_7 bs_8
        replace hT := Lib.hid (tabs_next hT.out q6)
        replace rs := Lib.hid (rm_below rs.out q6)
        replace bs := Lib.hid (blk_below bs.out q6)
        replace rt := Lib.hid (rm_below rt.out q6)
        replace bt := Lib.hid (blk_below bt.out q6)
        replace bq := Lib.hid (below_on bq.out q6)
        clear q6
        go_wp2_with fail
        refine (hen.out _ _ hT.out rs.out).mono ?_
        rintro e w7 ⟨vu, vp, rfl, ru, rp, _, q7⟩
        replace hT := Lib.hid (tabs_next hT.out q7)
        replace rs := Lib.hid (rm_below rs.out q7)
        replace bs := Lib.hid (blk_below bs.out q7)
        replace rt := Lib.hid (rm_below rt.out q7)
        replace bt := Lib.hid (blk_below bt.out q7)
        replace bq := Lib.hid (below_on bq.out q7)
        obtain ⟨pbn, cbn, pbg, cbg, pbc, cbc, rfl⟩ := rm_formK hu.out ru
        unfold cellsM at ru ⊢
        obtain ⟨pp, cp, rfl⟩ := ri_form rp
        replace ru := Lib.hid ru
        clear rp
        clear q7
        have hn := below_new w7 (.cells #[.int .i64 0, .string ⟨u.d.toArray⟩, .slice pbn u.n.length cbn, .slice pbg u.g.length cbg, .bool u.s.on, .int .i64 u.s.kind, .bool u.s.pict, .bool u.s.odd, .slice pbc u.c.length cbc] 41)
        have bu := Lib.hid (blk_new w7 #[.int .i64 0, .string ⟨u.d.toArray⟩, .slice pbn u.n.length cbn, .slice pbg u.g.length cbg, .bool u.s.on, .int .i64 u.s.kind, .bool u.s.pict, .bool u.s.odd, .slice pbc u.c.length cbc] 41)
        replace hT := Lib.hid (tabs_next hT.out hn)
        replace rs := Lib.hid (rm_below rs.out hn)
        replace bs := Lib.hid (blk_below bs.out hn)
        replace rt := Lib.hid (rm_below rt.out hn)
        replace bt := Lib.hid (blk_below bt.out hn)
        replace ru := Lib.hid (rm_below ru.out hn)
        replace bq := Lib.hid (below_on bq.out hn)
        clear hn
        have bs_0 := blk_cell bs.out 0 _ rfl
        have bt_0 := blk_cell bt.out 0 _ rfl
        have bt_1 := blk_cell bt.out 1 _ rfl
        have bt_2 := blk_cell bt.out 2 _ rfl
        have bt_3 := blk_cell bt.out 3 _ rfl
        have bt_4 := blk_cell bt.out 4 _ rfl
        have bt_5 := blk_cell bt.out 5 _ rfl
        have bt_6 := blk_cell bt.out 6 _ rfl
        have bt_7 := blk_cell bt.out 7 _ rfl
        have bt_8 := blk_cell bt.out 8 _ rfl
        go_wp2_with fail
        refine (hst.out _ _ hT.out rt.out).mono ?_
        rintro e w8 ⟨rfl, q8⟩
        clear bs_0 bt_0 bt_1 bt_2 bt_3 bt_4 bt_5 bt_6 bt_7 bt_8
        replace hT := Lib.hid (tabs_next hT.out q8)
        replace rs := Lib.hid (rm_below rs.out q8)
        replace bs := Lib.hid (blk_below bs.out q8)
        replace rt := Lib.hid (rm_below rt.out q8)
        replace bt := Lib.hid (blk_below bt.out q8)
        replace ru := Lib.hid (rm_below ru.out q8)
        replace bu := Lib.hid (blk_below bu.out q8)
        replace bq := Lib.hid (below_on bq.out q8)
        clear q8
        have bu_0 := blk_cell bu.out 0 _ rfl
        have bu_1 := blk_cell bu.out 1 _ rfl
        have bu_2 := blk_cell bu.out 2 _ rfl
        have bu_3 := blk_cell bu.out 3 _ rfl
        have bu_4 := blk_cell bu.out 4 _ rfl
        have bu_5 := blk_cell bu.out 5 _ rfl
        have bu_6 := blk_cell bu.out 6 _ rfl
        have bu_7 := blk_cell bu.out 7 _ rfl
        have bu_8 := blk_cell bu.out 8 _ rfl
        go_wp2_with fail
        refine (hsu.out _ _ hT.out ru.out).mono ?_
        rintro e w9 ⟨rfl, q9⟩
        clear bu_0 bu_1 bu_2 bu_3 bu_4 bu_5 bu_6 bu_7 bu_8
        replace hT := Lib.hid (tabs_next hT.out q9)
        replace rs := Lib.hid (rm_below rs.out q9)
        replace bs := Lib.hid (blk_below bs.out q9)
        replace rt := Lib.hid (rm_below rt.out q9)
        replace bt := Lib.hid (blk_below bt.out q9)
        replace ru := Lib.hid (rm_below ru.out q9)
        replace bu := Lib.hid (blk_below bu.out q9)
        replace bq := Lib.hid (below_on bq.out q9)
        clear q9
        have bt_0 := blk_cell bt.out 0 _ rfl
        have bt_1 := blk_cell bt.out 1 _ rfl
        have bt_2 := blk_cell bt.out 2 _ rfl
        have bt_3 := blk_cell bt.out 3 _ rfl
        have bt_4 := blk_cell bt.out 4 _ rfl
        have bt_5 := blk_cell bt.out 5 _ rfl
        have bt_6 := blk_cell bt.out 6 _ rfl
        have bt_7 := blk_cell bt.out 7 _ rfl
        have bt_8 := blk_cell bt.out 8 _ rfl
        have bu_0 := blk_cell bu.out 0 _ rfl
        go_wp2_with fail
        refine (hct.out _ _ hT.out rt.out).mono ?_
        rintro e w10 ⟨rfl, q10⟩
        clear bt_0 bt_1 bt_2 bt_3 bt_4 bt_5 bt_6 bt_7 bt_8 bu_0
        replace hT := Lib.hid (tabs_next hT.out q10)
        replace rs := Lib.hid (rm_below rs.out q10)
        replace bs := Lib.hid (blk_below bs.out q10)
        replace rt := Lib.hid (rm_below rt.out q10)
        replace bt := Lib.hid (blk_below bt.out q10)
        replace ru := Lib.hid (rm_below ru.out q10)
        replace bu := Lib.hid (blk_below bu.out q10)
        replace bq := Lib.hid (below_on bq.out q10)
        clear q10
        have bu_0 := blk_cell bu.out 0 _ rfl
        have bu_1 := blk_cell bu.out 1 _ rfl
        have bu_2 := blk_cell bu.out 2 _ rfl
        have bu_3 := blk_cell bu.out 3 _ rfl
        have bu_4 := blk_cell bu.out 4 _ rfl
        have bu_5 := blk_cell bu.out 5 _ rfl
        have bu_6 := blk_cell bu.out 6 _ rfl
        have bu_7 := blk_cell bu.out 7 _ rfl
        have bu_8 := blk_cell bu.out 8 _ rfl
        go_wp2_with fail
        refine (hcu.out _ _ hT.out ru.out).mono ?_
        rintro e w11 ⟨rfl, q11⟩
        clear bu_0 bu_1 bu_2 bu_3 bu_4 bu_5 bu_6 bu_7 bu_8
        replace hT := Lib.hid (tabs_next hT.out q11)
        replace rs := Lib.hid (rm_below rs.out q11)
        replace bs := Lib.hid (blk_below bs.out q11)
        replace rt := Lib.hid (rm_below rt.out q11)
        replace bt := Lib.hid (blk_below bt.out q11)
        replace ru := Lib.hid (rm_below ru.out q11)
        replace bu := Lib.hid (blk_below bu.out q11)
        replace bq := Lib.hid (below_on bq.out q11)
        clear q11
        go_wp2_with fail
        go_ret
        exact ⟨rfl, bq.out⟩
end Go.Proofs.YtiidjkhkcckmkaaGreatDoor
