/- Layer 12: the walk of SegKeeps. -/
import Derived.Test.YtbkgjbpnogcjeaaSgW0
namespace Go.Proofs.Ytbkgjbpnogcjeaa
set_option linter.unusedSimpArgs false
set_option linter.unusedVariables false
open Go.RowKit Go.Lib

theorem feed_cases (c : List Int) (s : Clu.CS) (r : Int) : ∃ n, (Sgm.saneB c s = true ∧ c ≠ [] ∧ Sgm.feedI c s r = (([r], n), c)) ∨ (Sgm.saneB c s = true ∧ Sgm.feedI c s r = ((c ++ [r], n), [])) ∨ (Sgm.saneB c s = false ∧ Sgm.feedI c s r = (([r], n), [])) := by
  unfold Sgm.feedI
  cases h : Sgm.saneB c s with
  | true =>
    rw [if_pos rfl]
    unfold Sgm.stepI
    split
    · rename_i h2
      exact ⟨_, .inl ⟨rfl, h2.1, rfl⟩⟩
    · exact ⟨_, .inr (.inl ⟨rfl, rfl⟩)⟩
  | false =>
    rw [if_neg (by simp)]
    exact ⟨Clu.nextI Clu.zero r, .inr (.inr ⟨rfl, by unfold Sgm.stepI; simp⟩)⟩

set_option maxHeartbeats 12800000 in
set_option maxRecDepth 100000 in
theorem segKeeps_walk (hS : SaneC12) (hF : FeedC12) (hA : AllC12) (v : Value) (s : List Int) (z : Clu.CS) (r : Int) (w : World) (hv : RI w v s ∧ WfI s) (_ : -9223372036854775808 ≤ r ∧ r ≤ 9223372036854775807) :
    Calls Try.prog 6 #[sgV v z, .int .i64 r] w fun e w' => e = .returned (.bool true) ∧ Below w.heap.size w w' := by
  obtain ⟨hri, _⟩ := hv
  obtain ⟨p, cap, rfl⟩ := ri_form hri
  have hawake := Lib.hid (awake12 hS hA)
  replace hri := Lib.hid hri
  by_cases hl : s.length ≤ 60
  · have hl' : decide (60 < s.length) = false := decide_eq_false (by omega)
    have hl2 : ¬ (60 : Int) < (s.length : Int) := by omega
    have hours := fun W => ours12_any p s.length cap z W
    have hfeed := fun W h => hF (.slice p s.length cap) s z r W (by omega) h
    have hfs := Sgm.feed_sane s z r
    have hss := fun W h => hS (.slice p s.length cap) s z W (by omega) h
    obtain ⟨n, hcase⟩ := feed_cases s z r
    have hrr : (r == r) = true := by simp
    have hrr2 : (r != r) = false := by simp
    obtain ⟨on, k, pi, od⟩ := z
    rcases hcase with ⟨h1, h2, h3⟩ | ⟨h1, h3⟩ | ⟨h1, h3⟩
    · rw [h3] at hfeed hfs
      have hst := fun V W (h : RI W V [r]) => hS V [r] n W (by simp) h
      rw [hfs] at hst
      rw [h1] at hss
      have hpos : 0 < s.length := List.length_pos_iff.2 h2
      have hpos2 : (0 : Int) < (s.length : Int) := by omega
      unfold FedS at hfeed
      unfold sgV at hours hfeed hss hst ⊢
      dsimp only at hours hfeed hss hst ⊢
      replace hours := Lib.hid hours
      replace hfeed := Lib.hid hfeed
      replace hss := Lib.hid hss
      replace hst := Lib.hid hst
      clear h1 h2 h3 hfs hS hF hA
      have bx := Lib.hid (blk_new w #[.slice p s.length cap, .bool on, .int .i64 k, .bool pi, .bool od] 26)
      have nb := below_new w (.cells #[.slice p s.length cap, .bool on, .int .i64 k, .bool pi, .bool od] 26)
      replace hri := Lib.hid (ri_below hri.out nb)
      have bq := Lib.hid nb
      clear nb
      go_enter Try.func6, Try.ntmps6
      go_wp2_with fail
      refine (hawake.out _).mono ?_
      rintro e w1 ⟨rfl, q1⟩
      replace bx := Lib.hid (blk_below bx.out q1)
      replace hri := Lib.hid (ri_below hri.out q1)
      replace bq := Lib.hid (below_on bq.out q1)
      clear q1
      have bx_0 := blk_cell bx.out 0 _ rfl
      have bx_1 := blk_cell bx.out 1 _ rfl
      have bx_2 := blk_cell bx.out 2 _ rfl
      have bx_3 := blk_cell bx.out 3 _ rfl
      have bx_4 := blk_cell bx.out 4 _ rfl
      go_wp2_with fail
      refine (hours.out _).mono ?_
      rintro e w2 ⟨rfl, q2⟩
      clear bx_0 bx_1 bx_2 bx_3 bx_4
      replace bx := Lib.hid (blk_below bx.out q2)
      replace hri := Lib.hid (ri_below hri.out q2)
      replace bq := Lib.hid (below_on bq.out q2)
      clear q2
      go_wp2_with fail
      refine (hfeed.out _ hri.out).mono ?_
      rintro e w3 ⟨va, vb, rfl, ht, ho, q3⟩
      replace ht : RI w3 va ([r]) := ht
      replace ho : RI w3 vb (s) := ho
      obtain ⟨pt, ct, rfl⟩ := ri_form ht
      obtain ⟨po, co, rfl⟩ := ri_form ho
      have nb := below_new w3 (.cells #[.slice pt ([r]).length ct, .bool n.on, .int .i64 n.kind, .bool n.pict, .bool n.odd] 30)
      replace bx := Lib.hid (blk_below (blk_below bx.out q3) nb)
      replace hri := Lib.hid (ri_below (ri_below hri.out q3) nb)
      replace ht := Lib.hid (ri_below ht nb)
      replace ho := Lib.hid (ri_below ho nb)
      have bt := Lib.hid (blk_new w3 #[.slice pt ([r]).length ct, .bool n.on, .int .i64 n.kind, .bool n.pict, .bool n.odd] 30)
      replace bq := below_on bq.out q3
      replace bq := Lib.hid (bq.alloc bq.size (.cells #[.slice pt ([r]).length ct, .bool n.on, .int .i64 n.kind, .bool n.pict, .bool n.odd] 30))
      clear nb q3
      have bt_0 := blk_cell bt.out 0 _ rfl
      have bt_1 := blk_cell bt.out 1 _ rfl
      have bt_2 := blk_cell bt.out 2 _ rfl
      have bt_3 := blk_cell bt.out 3 _ rfl
      have bt_4 := blk_cell bt.out 4 _ rfl
      go_wp2_with fail
      refine (hst.out _ _ ht.out).mono ?_
      rintro e w4 ⟨rfl, q4⟩
      clear bt_0 bt_1 bt_2 bt_3 bt_4
      replace bx := Lib.hid (blk_below bx.out q4)
      replace bt := Lib.hid (blk_below bt.out q4)
      replace hri := Lib.hid (ri_below hri.out q4)
      replace ht := Lib.hid (ri_below ht.out q4)
      replace ho := Lib.hid (ri_below ho.out q4)
      replace bq := Lib.hid (below_on bq.out q4)
      clear q4
      obtain ⟨gt, ot, rfl, _, hlast⟩ := ri_at ht.out (by first | (simp; done) | (rw [hYl.out]; omega))
      have xl : w4.cell? ⟨gt, ot, none⟩ = some (.int .i64 r) := hlast 0 (by simp)
      clear hlast
      have bx_0 := blk_cell bx.out 0 _ rfl
      have bx_1 := blk_cell bx.out 1 _ rfl
      have bx_2 := blk_cell bx.out 2 _ rfl
      have bx_3 := blk_cell bx.out 3 _ rfl
      have bx_4 := blk_cell bx.out 4 _ rfl
      have bt_0 := blk_cell bt.out 0 _ rfl
      have bt_1 := blk_cell bt.out 1 _ rfl
      have bt_2 := blk_cell bt.out 2 _ rfl
      have bt_3 := blk_cell bt.out 3 _ rfl
      have bt_4 := blk_cell bt.out 4 _ rfl
      go_wp2_with fail
      refine (same_self _ _ s _ (by omega) ho.out hri.out).mono ?_
      rintro e w5 ⟨rfl, q5⟩
      clear bx_0 bx_1 bx_2 bx_3 bx_4 bt_0 bt_1 bt_2 bt_3 bt_4
      replace bx := Lib.hid (blk_below bx.out q5)
      replace bt := Lib.hid (blk_below bt.out q5)
      replace hri := Lib.hid (ri_below hri.out q5)
      replace bq := Lib.hid (below_on bq.out q5)
      clear q5
      clear xl
      have bx_0 := blk_cell bx.out 0 _ rfl
      have bx_1 := blk_cell bx.out 1 _ rfl
      have bx_2 := blk_cell bx.out 2 _ rfl
      have bx_3 := blk_cell bx.out 3 _ rfl
      have bx_4 := blk_cell bx.out 4 _ rfl
      go_wp2_with fail
      refine (hours.out _).mono ?_
      rintro e w6 ⟨rfl, q6⟩
      clear bx_0 bx_1 bx_2 bx_3 bx_4
      replace bx := Lib.hid (blk_below bx.out q6)
      replace bt := Lib.hid (blk_below bt.out q6)
      replace hri := Lib.hid (ri_below hri.out q6)
      replace bq := Lib.hid (below_on bq.out q6)
      clear q6
      have bx_0 := blk_cell bx.out 0 _ rfl
      have bx_1 := blk_cell bx.out 1 _ rfl
      have bx_2 := blk_cell bx.out 2 _ rfl
      have bx_3 := blk_cell bx.out 3 _ rfl
      have bx_4 := blk_cell bx.out 4 _ rfl
      go_wp2_with fail
      refine (hss.out _ hri.out).mono ?_
      rintro e w7 ⟨rfl, q7⟩
      clear bx_0 bx_1 bx_2 bx_3 bx_4
      replace bx := Lib.hid (blk_below bx.out q7)
      replace bt := Lib.hid (blk_below bt.out q7)
      replace hri := Lib.hid (ri_below hri.out q7)
      replace bq := Lib.hid (below_on bq.out q7)
      clear q7
      go_wp2_with fail
      go_ret
      exact ⟨rfl, bq.out⟩
    · rw [h3] at hfeed hfs
      have hYl : (s ++ [r]).length = s.length + 1 := by simp
      have hYr : (s ++ [r])[s.length]'(by simp) = r := by simp
      obtain ⟨Y, hY⟩ : ∃ Y, s ++ [r] = Y := ⟨_, rfl⟩
      simp only [hY] at hYl hYr
      rw [hY] at hfeed hfs
      have hst := fun V W (h : RI W V Y) => hS V Y n W (by omega) h
      rw [hfs] at hst
      have hYr' : ∀ h, Y[s.length]'h = r := fun _ => hYr
      replace hYl := Lib.hid hYl
      replace hYr := Lib.hid hYr'
      rw [h1] at hss
      unfold FedS at hfeed
      unfold sgV at hours hfeed hss hst ⊢
      dsimp only at hours hfeed hss hst ⊢
      replace hours := Lib.hid hours
      replace hfeed := Lib.hid hfeed
      replace hss := Lib.hid hss
      replace hst := Lib.hid hst
      clear h1 h3 hfs hS hF hA
      have bx := Lib.hid (blk_new w #[.slice p s.length cap, .bool on, .int .i64 k, .bool pi, .bool od] 26)
      have nb := below_new w (.cells #[.slice p s.length cap, .bool on, .int .i64 k, .bool pi, .bool od] 26)
      replace hri := Lib.hid (ri_below hri.out nb)
      have bq := Lib.hid nb
      clear nb
      go_enter Try.func6, Try.ntmps6
      go_wp2_with fail
      refine (hawake.out _).mono ?_
      rintro e w1 ⟨rfl, q1⟩
      replace bx := Lib.hid (blk_below bx.out q1)
      replace hri := Lib.hid (ri_below hri.out q1)
      replace bq := Lib.hid (below_on bq.out q1)
      clear q1
      have bx_0 := blk_cell bx.out 0 _ rfl
      have bx_1 := blk_cell bx.out 1 _ rfl
      have bx_2 := blk_cell bx.out 2 _ rfl
      have bx_3 := blk_cell bx.out 3 _ rfl
      have bx_4 := blk_cell bx.out 4 _ rfl
      go_wp2_with fail
      refine (hours.out _).mono ?_
      rintro e w2 ⟨rfl, q2⟩
      clear bx_0 bx_1 bx_2 bx_3 bx_4
      replace bx := Lib.hid (blk_below bx.out q2)
      replace hri := Lib.hid (ri_below hri.out q2)
      replace bq := Lib.hid (below_on bq.out q2)
      clear q2
      go_wp2_with fail
      refine (hfeed.out _ hri.out).mono ?_
      rintro e w3 ⟨va, vb, rfl, ht, ho, q3⟩
      replace ht : RI w3 va (Y) := ht
      replace ho : RI w3 vb ([]) := ho
      obtain ⟨pt, ct, rfl⟩ := ri_form ht
      obtain ⟨po, co, rfl⟩ := ri_form ho
      have nb := below_new w3 (.cells #[.slice pt (Y).length ct, .bool n.on, .int .i64 n.kind, .bool n.pict, .bool n.odd] 30)
      replace bx := Lib.hid (blk_below (blk_below bx.out q3) nb)
      replace hri := Lib.hid (ri_below (ri_below hri.out q3) nb)
      replace ht := Lib.hid (ri_below ht nb)
      replace ho := Lib.hid (ri_below ho nb)
      have bt := Lib.hid (blk_new w3 #[.slice pt (Y).length ct, .bool n.on, .int .i64 n.kind, .bool n.pict, .bool n.odd] 30)
      replace bq := below_on bq.out q3
      replace bq := Lib.hid (bq.alloc bq.size (.cells #[.slice pt (Y).length ct, .bool n.on, .int .i64 n.kind, .bool n.pict, .bool n.odd] 30))
      clear nb q3
      have bt_0 := blk_cell bt.out 0 _ rfl
      have bt_1 := blk_cell bt.out 1 _ rfl
      have bt_2 := blk_cell bt.out 2 _ rfl
      have bt_3 := blk_cell bt.out 3 _ rfl
      have bt_4 := blk_cell bt.out 4 _ rfl
      go_wp2_with fail
      refine (hst.out _ _ ht.out).mono ?_
      rintro e w4 ⟨rfl, q4⟩
      clear bt_0 bt_1 bt_2 bt_3 bt_4
      replace bx := Lib.hid (blk_below bx.out q4)
      replace bt := Lib.hid (blk_below bt.out q4)
      replace hri := Lib.hid (ri_below hri.out q4)
      replace ht := Lib.hid (ri_below ht.out q4)
      replace ho := Lib.hid (ri_below ho.out q4)
      replace bq := Lib.hid (below_on bq.out q4)
      clear q4
      obtain ⟨gt, ot, rfl, _, hlast⟩ := ri_at ht.out (by first | (simp; done) | (rw [hYl.out]; omega))
      have xl : w4.cell? ⟨gt, ot + s.length, none⟩ = some (.int .i64 r) := by
        have h := hlast s.length (by rw [hYl.out]; omega)
        rwa [hYr.out] at h
      rw [hYl.out] at bt ht ⊢
      clear hlast
      have bx_0 := blk_cell bx.out 0 _ rfl
      have bx_1 := blk_cell bx.out 1 _ rfl
      have bx_2 := blk_cell bx.out 2 _ rfl
      have bx_3 := blk_cell bx.out 3 _ rfl
      have bx_4 := blk_cell bx.out 4 _ rfl
      have bt_0 := blk_cell bt.out 0 _ rfl
      have bt_1 := blk_cell bt.out 1 _ rfl
      have bt_2 := blk_cell bt.out 2 _ rfl
      have bt_3 := blk_cell bt.out 3 _ rfl
      have bt_4 := blk_cell bt.out 4 _ rfl
      go_wp2_with fail
      refine (hours.out _).mono ?_
      rintro e w5 ⟨rfl, q5⟩
      clear bx_0 bx_1 bx_2 bx_3 bx_4 bt_0 bt_1 bt_2 bt_3 bt_4
      replace bx := Lib.hid (blk_below bx.out q5)
      replace bt := Lib.hid (blk_below bt.out q5)
      replace hri := Lib.hid (ri_below hri.out q5)
      replace ht := Lib.hid (ri_below ht.out q5)
      replace bq := Lib.hid (below_on bq.out q5)
      clear q5
      clear xl
      have bx_0 := blk_cell bx.out 0 _ rfl
      have bx_1 := blk_cell bx.out 1 _ rfl
      have bx_2 := blk_cell bx.out 2 _ rfl
      have bx_3 := blk_cell bx.out 3 _ rfl
      have bx_4 := blk_cell bx.out 4 _ rfl
      have bt_0 := blk_cell bt.out 0 _ rfl
      have bt_1 := blk_cell bt.out 1 _ rfl
      have bt_2 := blk_cell bt.out 2 _ rfl
      have bt_3 := blk_cell bt.out 3 _ rfl
      have bt_4 := blk_cell bt.out 4 _ rfl
      go_wp2_with fail
      refine (hss.out _ hri.out).mono ?_
      rintro e w6 ⟨rfl, q6⟩
      clear bx_0 bx_1 bx_2 bx_3 bx_4 bt_0 bt_1 bt_2 bt_3 bt_4
      replace bx := Lib.hid (blk_below bx.out q6)
      replace bt := Lib.hid (blk_below bt.out q6)
      replace hri := Lib.hid (ri_below hri.out q6)
      replace ht := Lib.hid (ri_below ht.out q6)
      replace bq := Lib.hid (below_on bq.out q6)
      clear q6
      have bx_0 := blk_cell bx.out 0 _ rfl
      have bx_1 := blk_cell bx.out 1 _ rfl
      have bx_2 := blk_cell bx.out 2 _ rfl
      have bx_3 := blk_cell bx.out 3 _ rfl
      have bx_4 := blk_cell bx.out 4 _ rfl
      have bt_0 := blk_cell bt.out 0 _ rfl
      have bt_1 := blk_cell bt.out 1 _ rfl
      have bt_2 := blk_cell bt.out 2 _ rfl
      have bt_3 := blk_cell bt.out 3 _ rfl
      have bt_4 := blk_cell bt.out 4 _ rfl
      go_wp2_with fail
      refine (hours.out _).mono ?_
      rintro e w7 ⟨rfl, q7⟩
      clear bx_0 bx_1 bx_2 bx_3 bx_4 bt_0 bt_1 bt_2 bt_3 bt_4
      replace bx := Lib.hid (blk_below bx.out q7)
      replace bt := Lib.hid (blk_below bt.out q7)
      replace hri := Lib.hid (ri_below hri.out q7)
      replace ht := Lib.hid (ri_below ht.out q7)
      replace bq := Lib.hid (below_on bq.out q7)
      clear q7
      have bx_0 := blk_cell bx.out 0 _ rfl
      have bx_1 := blk_cell bx.out 1 _ rfl
      have bx_2 := blk_cell bx.out 2 _ rfl
      have bx_3 := blk_cell bx.out 3 _ rfl
      have bx_4 := blk_cell bx.out 4 _ rfl
      have bt_0 := blk_cell bt.out 0 _ rfl
      have bt_1 := blk_cell bt.out 1 _ rfl
      have bt_2 := blk_cell bt.out 2 _ rfl
      have bt_3 := blk_cell bt.out 3 _ rfl
      have bt_4 := blk_cell bt.out 4 _ rfl
      go_wp2_with fail
      refine (hss.out _ hri.out).mono ?_
      rintro e w8 ⟨rfl, q8⟩
      clear bx_0 bx_1 bx_2 bx_3 bx_4 bt_0 bt_1 bt_2 bt_3 bt_4
      replace bx := Lib.hid (blk_below bx.out q8)
      replace bt := Lib.hid (blk_below bt.out q8)
      replace hri := Lib.hid (ri_below hri.out q8)
      replace ht := Lib.hid (ri_below ht.out q8)
      replace bq := Lib.hid (below_on bq.out q8)
      clear q8
      have bx_0 := blk_cell bx.out 0 _ rfl
      have bx_1 := blk_cell bx.out 1 _ rfl
      have bx_2 := blk_cell bx.out 2 _ rfl
      have bx_3 := blk_cell bx.out 3 _ rfl
      have bx_4 := blk_cell bx.out 4 _ rfl
      have bt_0 := blk_cell bt.out 0 _ rfl
      have bt_1 := blk_cell bt.out 1 _ rfl
      have bt_2 := blk_cell bt.out 2 _ rfl
      have bt_3 := blk_cell bt.out 3 _ rfl
      have bt_4 := blk_cell bt.out 4 _ rfl
      go_wp2_with fail
      go_ret
      exact ⟨rfl, bq.out⟩
    · rw [h3] at hfeed hfs
      have hst := fun V W (h : RI W V [r]) => hS V [r] n W (by simp) h
      rw [hfs] at hst
      rw [h1] at hss
      unfold FedS at hfeed
      unfold sgV at hours hfeed hss hst ⊢
      dsimp only at hours hfeed hss hst ⊢
      replace hours := Lib.hid hours
      replace hfeed := Lib.hid hfeed
      replace hss := Lib.hid hss
      replace hst := Lib.hid hst
      clear h1 h3 hfs hS hF hA
      have bx := Lib.hid (blk_new w #[.slice p s.length cap, .bool on, .int .i64 k, .bool pi, .bool od] 26)
      have nb := below_new w (.cells #[.slice p s.length cap, .bool on, .int .i64 k, .bool pi, .bool od] 26)
      replace hri := Lib.hid (ri_below hri.out nb)
      have bq := Lib.hid nb
      clear nb
      go_enter Try.func6, Try.ntmps6
      go_wp2_with fail
      refine (hawake.out _).mono ?_
      rintro e w1 ⟨rfl, q1⟩
      replace bx := Lib.hid (blk_below bx.out q1)
      replace hri := Lib.hid (ri_below hri.out q1)
      replace bq := Lib.hid (below_on bq.out q1)
      clear q1
      have bx_0 := blk_cell bx.out 0 _ rfl
      have bx_1 := blk_cell bx.out 1 _ rfl
      have bx_2 := blk_cell bx.out 2 _ rfl
      have bx_3 := blk_cell bx.out 3 _ rfl
      have bx_4 := blk_cell bx.out 4 _ rfl
      go_wp2_with fail
      refine (hours.out _).mono ?_
      rintro e w2 ⟨rfl, q2⟩
      clear bx_0 bx_1 bx_2 bx_3 bx_4
      replace bx := Lib.hid (blk_below bx.out q2)
      replace hri := Lib.hid (ri_below hri.out q2)
      replace bq := Lib.hid (below_on bq.out q2)
      clear q2
      go_wp2_with fail
      refine (hfeed.out _ hri.out).mono ?_
      rintro e w3 ⟨va, vb, rfl, ht, ho, q3⟩
      replace ht : RI w3 va ([r]) := ht
      replace ho : RI w3 vb ([]) := ho
      obtain ⟨pt, ct, rfl⟩ := ri_form ht
      obtain ⟨po, co, rfl⟩ := ri_form ho
      have nb := below_new w3 (.cells #[.slice pt ([r]).length ct, .bool n.on, .int .i64 n.kind, .bool n.pict, .bool n.odd] 30)
      replace bx := Lib.hid (blk_below (blk_below bx.out q3) nb)
      replace hri := Lib.hid (ri_below (ri_below hri.out q3) nb)
      replace ht := Lib.hid (ri_below ht nb)
      replace ho := Lib.hid (ri_below ho nb)
      have bt := Lib.hid (blk_new w3 #[.slice pt ([r]).length ct, .bool n.on, .int .i64 n.kind, .bool n.pict, .bool n.odd] 30)
      replace bq := below_on bq.out q3
      replace bq := Lib.hid (bq.alloc bq.size (.cells #[.slice pt ([r]).length ct, .bool n.on, .int .i64 n.kind, .bool n.pict, .bool n.odd] 30))
      clear nb q3
      have bt_0 := blk_cell bt.out 0 _ rfl
      have bt_1 := blk_cell bt.out 1 _ rfl
      have bt_2 := blk_cell bt.out 2 _ rfl
      have bt_3 := blk_cell bt.out 3 _ rfl
      have bt_4 := blk_cell bt.out 4 _ rfl
      go_wp2_with fail
      refine (hst.out _ _ ht.out).mono ?_
      rintro e w4 ⟨rfl, q4⟩
      clear bt_0 bt_1 bt_2 bt_3 bt_4
      replace bx := Lib.hid (blk_below bx.out q4)
      replace bt := Lib.hid (blk_below bt.out q4)
      replace hri := Lib.hid (ri_below hri.out q4)
      replace ht := Lib.hid (ri_below ht.out q4)
      replace ho := Lib.hid (ri_below ho.out q4)
      replace bq := Lib.hid (below_on bq.out q4)
      clear q4
      obtain ⟨gt, ot, rfl, _, hlast⟩ := ri_at ht.out (by first | (simp; done) | (rw [hYl.out]; omega))
      have xl : w4.cell? ⟨gt, ot, none⟩ = some (.int .i64 r) := hlast 0 (by simp)
      clear hlast
      have bx_0 := blk_cell bx.out 0 _ rfl
      have bx_1 := blk_cell bx.out 1 _ rfl
      have bx_2 := blk_cell bx.out 2 _ rfl
      have bx_3 := blk_cell bx.out 3 _ rfl
      have bx_4 := blk_cell bx.out 4 _ rfl
      have bt_0 := blk_cell bt.out 0 _ rfl
      have bt_1 := blk_cell bt.out 1 _ rfl
      have bt_2 := blk_cell bt.out 2 _ rfl
      have bt_3 := blk_cell bt.out 3 _ rfl
      have bt_4 := blk_cell bt.out 4 _ rfl
      go_wp2_with fail
      refine (hours.out _).mono ?_
      rintro e w5 ⟨rfl, q5⟩
      clear bx_0 bx_1 bx_2 bx_3 bx_4 bt_0 bt_1 bt_2 bt_3 bt_4
      replace bx := Lib.hid (blk_below bx.out q5)
      replace bt := Lib.hid (blk_below bt.out q5)
      replace hri := Lib.hid (ri_below hri.out q5)
      replace ht := Lib.hid (ri_below ht.out q5)
      replace bq := Lib.hid (below_on bq.out q5)
      clear q5
      clear xl
      have bx_0 := blk_cell bx.out 0 _ rfl
      have bx_1 := blk_cell bx.out 1 _ rfl
      have bx_2 := blk_cell bx.out 2 _ rfl
      have bx_3 := blk_cell bx.out 3 _ rfl
      have bx_4 := blk_cell bx.out 4 _ rfl
      have bt_0 := blk_cell bt.out 0 _ rfl
      have bt_1 := blk_cell bt.out 1 _ rfl
      have bt_2 := blk_cell bt.out 2 _ rfl
      have bt_3 := blk_cell bt.out 3 _ rfl
      have bt_4 := blk_cell bt.out 4 _ rfl
      go_wp2_with fail
      refine (hss.out _ hri.out).mono ?_
      rintro e w6 ⟨rfl, q6⟩
      clear bx_0 bx_1 bx_2 bx_3 bx_4 bt_0 bt_1 bt_2 bt_3 bt_4
      replace bx := Lib.hid (blk_below bx.out q6)
      replace bt := Lib.hid (blk_below bt.out q6)
      replace hri := Lib.hid (ri_below hri.out q6)
      replace ht := Lib.hid (ri_below ht.out q6)
      replace bq := Lib.hid (below_on bq.out q6)
      clear q6
      have bx_0 := blk_cell bx.out 0 _ rfl
      have bx_1 := blk_cell bx.out 1 _ rfl
      have bx_2 := blk_cell bx.out 2 _ rfl
      have bx_3 := blk_cell bx.out 3 _ rfl
      have bx_4 := blk_cell bx.out 4 _ rfl
      have bt_0 := blk_cell bt.out 0 _ rfl
      have bt_1 := blk_cell bt.out 1 _ rfl
      have bt_2 := blk_cell bt.out 2 _ rfl
      have bt_3 := blk_cell bt.out 3 _ rfl
      have bt_4 := blk_cell bt.out 4 _ rfl
      go_wp2_with fail
      go_ret
      exact ⟨rfl, bq.out⟩
  · have hl' : decide (60 < s.length) = true := decide_eq_true (by omega)
    have hl2 : (60 : Int) < (s.length : Int) := by omega
    obtain ⟨on, k, pi, od⟩ := z
    unfold sgV
    dsimp only
    clear hS hF hA
    have bx := Lib.hid (blk_new w #[.slice p s.length cap, .bool on, .int .i64 k, .bool pi, .bool od] 26)
    have nb := below_new w (.cells #[.slice p s.length cap, .bool on, .int .i64 k, .bool pi, .bool od] 26)
    replace hri := Lib.hid (ri_below hri.out nb)
    have bq := Lib.hid nb
    clear nb
    go_enter Try.func6, Try.ntmps6
    go_wp2_with fail
    refine (hawake.out _).mono ?_
    rintro e w1 ⟨rfl, q1⟩
    replace bx := Lib.hid (blk_below bx.out q1)
    replace hri := Lib.hid (ri_below hri.out q1)
    replace bq := Lib.hid (below_on bq.out q1)
    clear q1
    have bx_0 := blk_cell bx.out 0 _ rfl
    have bx_1 := blk_cell bx.out 1 _ rfl
    have bx_2 := blk_cell bx.out 2 _ rfl
    have bx_3 := blk_cell bx.out 3 _ rfl
    have bx_4 := blk_cell bx.out 4 _ rfl
    go_wp2_with fail
    go_ret
    exact ⟨rfl, bq.out⟩

end Go.Proofs.Ytbkgjbpnogcjeaa
