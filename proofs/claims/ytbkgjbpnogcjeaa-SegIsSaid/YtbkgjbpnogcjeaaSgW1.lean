/- Layer 12: the walk of SegIs. -/
import Derived.Test.YtbkgjbpnogcjeaaSgW0
import Derived.Test.YtbkgjbpnogcjeaaSgR3
import Derived.Test.YtbkgjbpnogcjeaaSgR6
namespace Go.Proofs.Ytbkgjbpnogcjeaa
set_option linter.unusedSimpArgs false
set_option linter.unusedVariables false
open Go.RowKit Go.Lib
theorem held15 {w w1 : World} {a0 a1 a2 a3 a4 a5 a6 a7 a8 a9 a10 a11 a12 a13 a14 : Addr} {u0 u1 u2 u3 u4 u5 u6 u7 u8 u9 u10 u11 u12 u13 u14 : Value} (hb : Below w.heap.size w w1) (h : w.cell? a0 = some u0 ∧ w.cell? a1 = some u1 ∧ w.cell? a2 = some u2 ∧ w.cell? a3 = some u3 ∧ w.cell? a4 = some u4 ∧ w.cell? a5 = some u5 ∧ w.cell? a6 = some u6 ∧ w.cell? a7 = some u7 ∧ w.cell? a8 = some u8 ∧ w.cell? a9 = some u9 ∧ w.cell? a10 = some u10 ∧ w.cell? a11 = some u11 ∧ w.cell? a12 = some u12 ∧ w.cell? a13 = some u13 ∧ w.cell? a14 = some u14) : w1.cell? a0 = some u0 ∧ w1.cell? a1 = some u1 ∧ w1.cell? a2 = some u2 ∧ w1.cell? a3 = some u3 ∧ w1.cell? a4 = some u4 ∧ w1.cell? a5 = some u5 ∧ w1.cell? a6 = some u6 ∧ w1.cell? a7 = some u7 ∧ w1.cell? a8 = some u8 ∧ w1.cell? a9 = some u9 ∧ w1.cell? a10 = some u10 ∧ w1.cell? a11 = some u11 ∧ w1.cell? a12 = some u12 ∧ w1.cell? a13 = some u13 ∧ w1.cell? a14 = some u14 := by
  obtain ⟨h0, h1, h2, h3, h4, h5, h6, h7, h8, h9, h10, h11, h12, h13, h14⟩ := h
  exact ⟨(hb.cell (World.block_lt_of_cell? _ _ h0)).trans h0, (hb.cell (World.block_lt_of_cell? _ _ h1)).trans h1, (hb.cell (World.block_lt_of_cell? _ _ h2)).trans h2, (hb.cell (World.block_lt_of_cell? _ _ h3)).trans h3, (hb.cell (World.block_lt_of_cell? _ _ h4)).trans h4, (hb.cell (World.block_lt_of_cell? _ _ h5)).trans h5, (hb.cell (World.block_lt_of_cell? _ _ h6)).trans h6, (hb.cell (World.block_lt_of_cell? _ _ h7)).trans h7, (hb.cell (World.block_lt_of_cell? _ _ h8)).trans h8, (hb.cell (World.block_lt_of_cell? _ _ h9)).trans h9, (hb.cell (World.block_lt_of_cell? _ _ h10)).trans h10, (hb.cell (World.block_lt_of_cell? _ _ h11)).trans h11, (hb.cell (World.block_lt_of_cell? _ _ h12)).trans h12, (hb.cell (World.block_lt_of_cell? _ _ h13)).trans h13, (hb.cell (World.block_lt_of_cell? _ _ h14)).trans h14⟩

theorem feed_casesI (c : List Int) (s : Clu.CS) (r : Int) : ∃ n, (Sgm.saneB c s = true ∧ c ≠ [] ∧ Sgm.feedI c s r = (([r], n), c)) ∨ (Sgm.saneB c s = true ∧ Sgm.feedI c s r = ((c ++ [r], n), [])) ∨ (Sgm.saneB c s = false ∧ Sgm.feedI c s r = (([r], n), [])) := by
  unfold Sgm.feedI
  cases h : Sgm.saneB c s with
  | true =>
    rw [if_pos rfl]
    unfold Sgm.stepI
    split
    · rename_i h2
      exact ⟨_, .inl ⟨rfl, h2.1, rfl⟩⟩
    · exact ⟨_, .inr (.inl ⟨rfl, rfl⟩)⟩
  | false =>
    rw [if_neg (by simp)]
    exact ⟨Clu.nextI Clu.zero r, .inr (.inr ⟨rfl, by unfold Sgm.stepI; simp⟩)⟩


theorem flat_lenI {L : List (List Int)} (h : ∀ x ∈ L, 1 ≤ x.length) : L.length ≤ L.flatten.length := by
  induction L with
  | nil => simp
  | cons x t ih =>
    have h1 := h x (List.mem_cons_self ..)
    have h2 := ih fun y hy => h y (List.mem_cons_of_mem _ hy)
    simp only [List.length_cons, List.flatten_cons, List.length_append]
    omega

theorem rend12_told (v : Value) (l : List Int) (s : Clu.CS) (w : World) (hl : l.length ≤ 100000) (hv : RI w v l) : Calls Try.prog 18 #[sgV v s] w (Told (Sgm.endI l s) w) := by
  refine (rend12_any v l s w hl hv).mono ?_
  rintro e w' ⟨rfl, hb⟩
  refine ⟨_, rfl, ?_, hb⟩
  unfold Sgm.endI
  split
  · exact ri_below hv hb
  · exact ri_nil _

set_option maxHeartbeats 3200000 in
set_option maxRecDepth 100000 in
theorem same12_any (p1 p2 : Option Addr) (c1 c2 : Nat) (L : List Int) (a : Bool) (b : Int) (c d : Bool) (w : World) (hl : L.length ≤ 100000) (h1 : RI w (.slice p1 L.length c1) L) (h2 : RI w (.slice p2 L.length c2) L) :
    Calls Try.prog 15 #[.agg #[.slice p1 L.length c1, .bool a, .int .i64 b, .bool c, .bool d], .agg #[.slice p2 L.length c2, .bool a, .int .i64 b, .bool c, .bool d]] w fun e w' => e = .returned (.bool true) ∧ Below w.heap.size w w' := by
  have b1 := blk_alloc (blk_new w #[.slice p1 L.length c1, .bool a, .int .i64 b, .bool c, .bool d] 30) (.cells #[.slice p2 L.length c2, .bool a, .int .i64 b, .bool c, .bool d] 26)
  have b2 := blk_new (w.alloc (.cells #[.slice p1 L.length c1, .bool a, .int .i64 b, .bool c, .bool d] 30)) #[.slice p2 L.length c2, .bool a, .int .i64 b, .bool c, .bool d] 26
  rw [show (w.alloc (.cells #[.slice p1 L.length c1, .bool a, .int .i64 b, .bool c, .bool d] 30)).heap.size = w.heap.size + 1 by simp] at b2
  have hb : Below w.heap.size w ((w.alloc (.cells #[.slice p1 L.length c1, .bool a, .int .i64 b, .bool c, .bool d] 30)).alloc (.cells #[.slice p2 L.length c2, .bool a, .int .i64 b, .bool c, .bool d] 26)) := (below_new w _).alloc (by simp) _
  obtain ⟨W, hW⟩ : ∃ W, (w.alloc (.cells #[.slice p1 L.length c1, .bool a, .int .i64 b, .bool c, .bool d] 30)).alloc (.cells #[.slice p2 L.length c2, .bool a, .int .i64 b, .bool c, .bool d] 26) = W := ⟨_, rfl⟩
  replace h1 := Lib.hid (ri_below h1 hb)
  replace h2 := Lib.hid (ri_below h2 hb)
  rw [hW] at b1 b2 hb h1 h2
  replace b1 := Lib.hid b1
  replace b2 := Lib.hid b2
  replace hb := Lib.hid hb
  replace hW := Lib.hid hW
  go_enter Try.func15, Try.ntmps15
  go_upto_region 1 with (fail)
  rw [hW.out]
  have k0 := blk_cell b1.out 0 _ rfl
  have j0 := blk_cell b2.out 0 _ rfl
  go_wp2_with fail
  refine (same_self _ _ L _ hl h1.out h2.out).mono ?_
  rintro e w2 ⟨rfl, q2⟩
  replace b1 := blk_below b1.out q2
  replace b2 := blk_below b2.out q2
  have k1 := blk_cell b1 1 _ rfl
  have k2 := blk_cell b1 2 _ rfl
  have k3 := blk_cell b1 3 _ rfl
  have k4 := blk_cell b1 4 _ rfl
  have j1 := blk_cell b2 1 _ rfl
  have j2 := blk_cell b2 2 _ rfl
  have j3 := blk_cell b2 3 _ rfl
  have j4 := blk_cell b2 4 _ rfl
  replace hb := Lib.hid (hb.out.trans (q2.mono hb.out.size))
  replace b1 := Lib.hid b1
  replace b2 := Lib.hid b2
  clear k0 j0 q2
  go_wp2_with fail
  go_ret
  exact ⟨ret_bool (by simp), hb.out⟩

set_option maxHeartbeats 12800000 in
set_option maxRecDepth 100000 in
theorem segIs_walk (hS : SaneC12) (hF : FeedC12) (hE : EndC12) (hA : AllC12) (v : Value) (s : List Int) (z : Clu.CS) (r : Int) (vl : Value) (l : List Int) (w : World) (hv : RI w v s ∧ WfI s) (_ : -9223372036854775808 ≤ r ∧ r ≤ 9223372036854775807) (hvl : RI w vl l ∧ WfI l) :
    Calls Try.prog 3 #[sgV v z, .int .i64 r, vl] w fun e w' => e = .returned (.bool true) ∧ Below w.heap.size w w' := by
  obtain ⟨hri, _⟩ := hv
  obtain ⟨hrl, _⟩ := hvl
  obtain ⟨p, cap, rfl⟩ := ri_form hri
  obtain ⟨pl, cl, rfl⟩ := ri_form hrl
  have hawake := Lib.hid (awake12 hS hA)
  replace hri := Lib.hid hri
  replace hrl := Lib.hid hrl
  by_cases hl : s.length ≤ 60
  · have hl' : decide (60 < s.length) = false := decide_eq_false (by omega)
    have hl2 : ¬ (60 : Int) < (s.length : Int) := by omega
    by_cases hm : l.length ≤ 150
    · have hm' : decide (150 < l.length) = false := decide_eq_false (by omega)
      have hm2 : ¬ (150 : Int) < (l.length : Int) := by omega
      have hours := fun W => ours12_any p s.length cap z W
      have hfeed := fun W h => hF (.slice p s.length cap) s z r W (by omega) h
      have rfeed := fun W h => rfeed12_any (.slice p s.length cap) s z r W (by omega) h
      have hsane := fun W h => hS (.slice p s.length cap) s z W (by omega) h
      have rsane := fun W h => rsane12_any (.slice p s.length cap) s z W (by omega) h
      have hend := fun W h => hE (.slice p s.length cap) s z W (by omega) h
      have rend := fun W h => rend12_told (.slice p s.length cap) s z W (by omega) h
      have hall := fun W h => hA (.slice pl l.length cl) l W (by omega) h
      have rall := fun W h => rall12_any (.slice pl l.length cl) l W (by omega) h
      have n1 : (Sgm.feedI s z r).2.length ≤ 60 := by
        obtain ⟨n, h | h | h⟩ := feed_casesI s z r
        · rw [h.2.2]; exact hl
        · rw [h.2]; simp
        · rw [h.2]; simp
      have n0 : (Sgm.feedI s z r).1.1.length ≤ 61 := by
        obtain ⟨n, h | h | h⟩ := feed_casesI s z r
        · rw [h.2.2]; simp
        · rw [h.2]; simp; omega
        · rw [h.2]; simp
      have n2 : (Sgm.endI s z).length ≤ 60 := by
        unfold Sgm.endI
        split
        · exact hl
        · simp
      have hj := Sgm.all_join l
      have n4 : (Sgm.allI l).length ≤ 150 := by
        have := flat_lenI (fun x hx => (hj.2 x hx).1)
        rw [hj.1] at this
        omega
      have n5 := Lib.hid (show ∀ x ∈ Sgm.allI l, x.length ≤ 100000 from fun x hx => by have := (hj.2 x hx).2; omega)
      obtain ⟨q, hq⟩ : ∃ q, Sgm.feedI s z r = q := ⟨_, rfl⟩
      rw [hq] at hfeed rfeed n0 n1
      obtain ⟨c, hc⟩ : ∃ c, Sgm.saneB s z = c := ⟨_, rfl⟩
      rw [hc] at hsane rsane
      have hcc : (c == c) = true := by simp
      obtain ⟨E, hEE⟩ : ∃ E, Sgm.endI s z = E := ⟨_, rfl⟩
      rw [hEE] at hend rend n2
      obtain ⟨A, hAA⟩ : ∃ A, Sgm.allI l = A := ⟨_, rfl⟩
      rw [hAA] at hall rall n4 n5
      obtain ⟨⟨K1, ⟨na, nb, nc, nd⟩⟩, T1⟩ := q
      dsimp only at n0 n1
      have hsame := Lib.hid (fun p1 p2 c1 c2 W h1 h2 => same12_any p1 p2 c1 c2 K1 na nb nc nd W (by omega) h1 h2)
      obtain ⟨on, k, pi, od⟩ := z
      unfold FedS at hfeed
      unfold Fed12 at rfeed
      unfold sgV at hours hfeed rfeed hsane rsane hend rend ⊢
      dsimp only at hours hfeed rfeed hsane rsane hend rend ⊢
      replace hours := Lib.hid hours
      replace hfeed := Lib.hid hfeed
      replace rfeed := Lib.hid rfeed
      replace hsane := Lib.hid hsane
      replace rsane := Lib.hid rsane
      replace hend := Lib.hid hend
      replace rend := Lib.hid rend
      replace hall := Lib.hid hall
      replace rall := Lib.hid rall
      clear hq hc hEE hAA hj hS hF hE hA
      have bx := Lib.hid (blk_new w #[.slice p s.length cap, .bool on, .int .i64 k, .bool pi, .bool od] 26)
      have nb := below_new w (.cells #[.slice p s.length cap, .bool on, .int .i64 k, .bool pi, .bool od] 26)
      replace hri := Lib.hid (ri_below hri.out nb)
      replace hrl := Lib.hid (ri_below hrl.out nb)
      have bq := Lib.hid nb
      clear nb
      go_enter Try.func3, Try.ntmps3
      go_wp2_with fail
      refine (hawake.out _).mono ?_
      rintro e w1 ⟨rfl, q1⟩
      replace bx := Lib.hid (blk_below bx.out q1)
      replace hri := Lib.hid (ri_below hri.out q1)
      replace hrl := Lib.hid (ri_below hrl.out q1)
      replace bq := Lib.hid (below_on bq.out q1)
      clear q1
      have bx_0 := blk_cell bx.out 0 _ rfl
      have bx_1 := blk_cell bx.out 1 _ rfl
      have bx_2 := blk_cell bx.out 2 _ rfl
      have bx_3 := blk_cell bx.out 3 _ rfl
      have bx_4 := blk_cell bx.out 4 _ rfl
      go_wp2_with fail
      refine (hours.out _).mono ?_
      rintro e w2 ⟨rfl, q2⟩
      clear bx_0 bx_1 bx_2 bx_3 bx_4
      replace bx := Lib.hid (blk_below bx.out q2)
      replace hri := Lib.hid (ri_below hri.out q2)
      replace hrl := Lib.hid (ri_below hrl.out q2)
      replace bq := Lib.hid (below_on bq.out q2)
      clear q2
      go_wp2_with fail
      refine (hfeed.out _ hri.out).mono ?_
      rintro e w3 ⟨va, vb, rfl, t, o, q3⟩
      replace t : RI w3 va K1 := t
      replace o : RI w3 vb T1 := o
      obtain ⟨p_t, c_t, rfl⟩ := ri_form t
      obtain ⟨p_o, c_o, rfl⟩ := ri_form o
      have nw := below_new w3 (.cells #[.slice p_t K1.length c_t, .bool na, .int .i64 nb, .bool nc, .bool nd] 30)
      replace bx := Lib.hid (blk_below (blk_below bx.out q3) nw)
      replace hri := Lib.hid (ri_below (ri_below hri.out q3) nw)
      replace hrl := Lib.hid (ri_below (ri_below hrl.out q3) nw)
      replace t := Lib.hid (ri_below t nw)
      replace o := Lib.hid (ri_below o nw)
      have bt := Lib.hid (blk_new w3 #[.slice p_t K1.length c_t, .bool na, .int .i64 nb, .bool nc, .bool nd] 30)
      replace bq := below_on bq.out q3
      replace bq := Lib.hid (bq.alloc bq.size (.cells #[.slice p_t K1.length c_t, .bool na, .int .i64 nb, .bool nc, .bool nd] 30))
      clear nw q3
      have bx_0 := blk_cell bx.out 0 _ rfl
      have bx_1 := blk_cell bx.out 1 _ rfl
      have bx_2 := blk_cell bx.out 2 _ rfl
      have bx_3 := blk_cell bx.out 3 _ rfl
      have bx_4 := blk_cell bx.out 4 _ rfl
      go_wp2_with fail
      refine (rfeed.out _ hri.out).mono ?_
      rintro e w4 ⟨va, vb, rfl, u, o2, q4⟩
      replace u : RI w4 va K1 := ri_of_own u
      replace o2 : RI w4 vb T1 := o2
      obtain ⟨p_u, c_u, rfl⟩ := ri_form u
      obtain ⟨p_o2, c_o2, rfl⟩ := ri_form o2
      have nw := below_new w4 (.cells #[.slice p_u K1.length c_u, .bool na, .int .i64 nb, .bool nc, .bool nd] 26)
      replace bx := Lib.hid (blk_below (blk_below bx.out q4) nw)
      replace bt := Lib.hid (blk_below (blk_below bt.out q4) nw)
      replace hri := Lib.hid (ri_below (ri_below hri.out q4) nw)
      replace hrl := Lib.hid (ri_below (ri_below hrl.out q4) nw)
      replace t := Lib.hid (ri_below (ri_below t.out q4) nw)
      replace o := Lib.hid (ri_below (ri_below o.out q4) nw)
      replace u := Lib.hid (ri_below u nw)
      replace o2 := Lib.hid (ri_below o2 nw)
      have bu := Lib.hid (blk_new w4 #[.slice p_u K1.length c_u, .bool na, .int .i64 nb, .bool nc, .bool nd] 26)
      replace bq := below_on bq.out q4
      replace bq := Lib.hid (bq.alloc bq.size (.cells #[.slice p_u K1.length c_u, .bool na, .int .i64 nb, .bool nc, .bool nd] 26))
      clear nw q4
      clear bx_0 bx_1 bx_2 bx_3 bx_4
      go_upto_region 6 with (fail)
      generalize hwq : w4.alloc (.cells #[.slice p_u K1.length c_u, .bool na, .int .i64 nb, .bool nc, .bool nd] 26) = wq at *
      have H15 := Lib.hid (show wq.cell? ⟨w.heap.size, 0, none⟩ = some (.slice p s.length cap) ∧ wq.cell? ⟨w.heap.size, 1, none⟩ = some (.bool on) ∧ wq.cell? ⟨w.heap.size, 2, none⟩ = some (.int .i64 k) ∧ wq.cell? ⟨w.heap.size, 3, none⟩ = some (.bool pi) ∧ wq.cell? ⟨w.heap.size, 4, none⟩ = some (.bool od) ∧ wq.cell? ⟨w3.heap.size, 0, none⟩ = some (.slice p_t K1.length c_t) ∧ wq.cell? ⟨w3.heap.size, 1, none⟩ = some (.bool na) ∧ wq.cell? ⟨w3.heap.size, 2, none⟩ = some (.int .i64 nb) ∧ wq.cell? ⟨w3.heap.size, 3, none⟩ = some (.bool nc) ∧ wq.cell? ⟨w3.heap.size, 4, none⟩ = some (.bool nd) ∧ wq.cell? ⟨w4.heap.size, 0, none⟩ = some (.slice p_u K1.length c_u) ∧ wq.cell? ⟨w4.heap.size, 1, none⟩ = some (.bool na) ∧ wq.cell? ⟨w4.heap.size, 2, none⟩ = some (.int .i64 nb) ∧ wq.cell? ⟨w4.heap.size, 3, none⟩ = some (.bool nc) ∧ wq.cell? ⟨w4.heap.size, 4, none⟩ = some (.bool nd) from ⟨blk_cell bx.out 0 _ rfl, blk_cell bx.out 1 _ rfl, blk_cell bx.out 2 _ rfl, blk_cell bx.out 3 _ rfl, blk_cell bx.out 4 _ rfl, blk_cell bt.out 0 _ rfl, blk_cell bt.out 1 _ rfl, blk_cell bt.out 2 _ rfl, blk_cell bt.out 3 _ rfl, blk_cell bt.out 4 _ rfl, blk_cell bu.out 0 _ rfl, blk_cell bu.out 1 _ rfl, blk_cell bu.out 2 _ rfl, blk_cell bu.out 3 _ rfl, blk_cell bu.out 4 _ rfl⟩)
      clear bx bt bu hwq
      replace hri := Lib.hid (ri_drew hri.out)
      replace hrl := Lib.hid (ri_drew hrl.out)
      replace t := Lib.hid (ri_drew t.out)
      replace o := Lib.hid (ri_drew o.out)
      replace u := Lib.hid (ri_drew u.out)
      replace o2 := Lib.hid (ri_drew o2.out)
      replace bq := Lib.hid bq.out.drew
      refine wp_region_held_drew (S := fun w' => w'.cell? ⟨w.heap.size, 0, none⟩ = some (.slice p s.length cap) ∧ w'.cell? ⟨w.heap.size, 1, none⟩ = some (.bool on) ∧ w'.cell? ⟨w.heap.size, 2, none⟩ = some (.int .i64 k) ∧ w'.cell? ⟨w.heap.size, 3, none⟩ = some (.bool pi) ∧ w'.cell? ⟨w.heap.size, 4, none⟩ = some (.bool od) ∧ w'.cell? ⟨w3.heap.size, 0, none⟩ = some (.slice p_t K1.length c_t) ∧ w'.cell? ⟨w3.heap.size, 1, none⟩ = some (.bool na) ∧ w'.cell? ⟨w3.heap.size, 2, none⟩ = some (.int .i64 nb) ∧ w'.cell? ⟨w3.heap.size, 3, none⟩ = some (.bool nc) ∧ w'.cell? ⟨w3.heap.size, 4, none⟩ = some (.bool nd) ∧ w'.cell? ⟨w4.heap.size, 0, none⟩ = some (.slice p_u K1.length c_u) ∧ w'.cell? ⟨w4.heap.size, 1, none⟩ = some (.bool na) ∧ w'.cell? ⟨w4.heap.size, 2, none⟩ = some (.int .i64 nb) ∧ w'.cell? ⟨w4.heap.size, 3, none⟩ = some (.bool nc) ∧ w'.cell? ⟨w4.heap.size, 4, none⟩ = some (.bool nd)) (by kernel_rfl) (H15.out) (fun hS => ?_)
      refine' wpAnyH_take (i := 0) (oi := ⟨_, _, _, _, _, _⟩) (v := _) rfl (by kernel_rfl) (by kernel_rfl) (by kernel_rfl) (fun _ _ _ h => h) (Or.inl ⟨by rfl, ?hy0⟩) hS ?rest0
      case hy0 => (intro wz hSw; (try dsimp only at hSw); go_simp; try with_reducible rfl)
      try simp only [Act.put, List.setIfInBounds_toArray, List.set_cons_zero, List.set_cons_succ]
      refine' wpAnyH_take (i := 1) (oi := ⟨_, _, _, _, _, _⟩) (v := _) rfl (by kernel_rfl) (by kernel_rfl) (by kernel_rfl) (fun _ _ _ h => h) (Or.inl ⟨by rfl, ?hy1⟩) hS ?rest1
      case hy1 => (intro wz hSw; (try dsimp only at hSw); go_simp; try with_reducible rfl)
      try simp only [Act.put, List.setIfInBounds_toArray, List.set_cons_zero, List.set_cons_succ]
      refine' wpAnyH_take (i := 2) (oi := ⟨_, _, _, _, _, _⟩) (v := _) rfl (by kernel_rfl) (by kernel_rfl) (by kernel_rfl) (fun _ _ _ h => h) (Or.inl ⟨by rfl, ?hy2⟩) hS ?rest2
      case hy2 => (intro wz hSw; (try dsimp only at hSw); go_simp; try with_reducible rfl)
      try simp only [Act.put, List.setIfInBounds_toArray, List.set_cons_zero, List.set_cons_succ]
      refine' wpAnyH_take (i := 5) (oi := ⟨_, _, _, _, _, _⟩) (v := _) rfl (by kernel_rfl) (by kernel_rfl) (by kernel_rfl) (fun _ _ _ h => h) (Or.inl ⟨by rfl, ?hy5⟩) hS ?rest5
      case hy5 => (intro wz hSw; (try dsimp only at hSw); go_simp; try with_reducible rfl)
      try simp only [Act.put, List.setIfInBounds_toArray, List.set_cons_zero, List.set_cons_succ]
      refine wpAnyH_ready (rs := [3]) (by kernel_rfl) (by simp) (AllReadyH.cons rfl (fun K hK => ?_) AllReadyH.nil)
      go_simp
      go_at_call 11
      refine (hours.out _).mono ?_
      rintro e w_3 ⟨rfl, q_3⟩
      replace hri := Lib.hid (ri_below hri.out q_3)
      replace hrl := Lib.hid (ri_below hrl.out q_3)
      replace t := Lib.hid (ri_below t.out q_3)
      replace o := Lib.hid (ri_below o.out q_3)
      replace u := Lib.hid (ri_below u.out q_3)
      replace o2 := Lib.hid (ri_below o2.out q_3)
      replace bq := Lib.hid (below_on bq.out q_3)
      go_wp2_with fail
      refine hK.out _ _ (held15 q_3 hS) (fun hSn => ?_)
      clear hS
      have hS := hSn
      clear hSn
      clear hK K
      try simp only [Act.put, List.setIfInBounds_toArray, List.set_cons_zero, List.set_cons_succ]
      clear q_3
      refine wpAnyH_ready (rs := [4]) (by kernel_rfl) (by simp) (AllReadyH.cons rfl (fun K hK => ?_) AllReadyH.nil)
      go_simp
      go_at_call 13
      refine (hsane.out _ hri.out).mono ?_
      rintro e w_4 ⟨rfl, q_4⟩
      replace hri := Lib.hid (ri_below hri.out q_4)
      replace hrl := Lib.hid (ri_below hrl.out q_4)
      replace t := Lib.hid (ri_below t.out q_4)
      replace o := Lib.hid (ri_below o.out q_4)
      replace u := Lib.hid (ri_below u.out q_4)
      replace o2 := Lib.hid (ri_below o2.out q_4)
      replace bq := Lib.hid (below_on bq.out q_4)
      go_wp2_with fail
      refine hK.out _ _ (held15 q_4 hS) (fun hSn => ?_)
      clear hS
      have hS := hSn
      clear hSn
      clear hK K
      try simp only [Act.put, List.setIfInBounds_toArray, List.set_cons_zero, List.set_cons_succ]
      clear q_4
      refine wpAnyH_ready (rs := [6]) (by kernel_rfl) (by simp) (AllReadyH.cons rfl (fun K hK => ?_) AllReadyH.nil)
      go_simp
      go_at_call 14
      refine (rsane.out _ hri.out).mono ?_
      rintro e w_6 ⟨rfl, q_6⟩
      replace hri := Lib.hid (ri_below hri.out q_6)
      replace hrl := Lib.hid (ri_below hrl.out q_6)
      replace t := Lib.hid (ri_below t.out q_6)
      replace o := Lib.hid (ri_below o.out q_6)
      replace u := Lib.hid (ri_below u.out q_6)
      replace o2 := Lib.hid (ri_below o2.out q_6)
      replace bq := Lib.hid (below_on bq.out q_6)
      go_wp2_with fail
      refine hK.out _ _ (held15 q_6 hS) (fun hSn => ?_)
      clear hS
      have hS := hSn
      clear hSn
      clear hK K
      try simp only [Act.put, List.setIfInBounds_toArray, List.set_cons_zero, List.set_cons_succ]
      clear q_6
      refine' wpAnyH_take (i := 7) (oi := ⟨_, _, _, _, _, _⟩) (v := _) rfl (by kernel_rfl) (by kernel_rfl) (by kernel_rfl) (fun _ _ _ h => h) (Or.inl ⟨by rfl, ?hy7⟩) hS ?rest7
      case hy7 => (intro wz hSw; (try dsimp only at hSw); go_simp; try with_reducible rfl)
      try simp only [Act.put, List.setIfInBounds_toArray, List.set_cons_zero, List.set_cons_succ]
      try simp only [hcc]
      refine' wpAnyH_take (i := 8) (oi := ⟨_, _, _, _, _, _⟩) (v := _) rfl (by kernel_rfl) (by kernel_rfl) (by kernel_rfl) (fun _ _ _ h => h) (Or.inl ⟨by rfl, ?hy8⟩) hS ?rest8
      case hy8 => (intro wz hSw; (try dsimp only at hSw); go_simp; try with_reducible rfl)
      try simp only [Act.put, List.setIfInBounds_toArray, List.set_cons_zero, List.set_cons_succ]
      refine' wpAnyH_take (i := 9) (oi := ⟨_, _, _, _, _, _⟩) (v := _) rfl (by kernel_rfl) (by kernel_rfl) (by kernel_rfl) (fun _ _ _ h => h) (Or.inl ⟨by rfl, ?hy9⟩) hS ?rest9
      case hy9 => (intro wz hSw; (try dsimp only at hSw); go_simp; try with_reducible rfl)
      try simp only [Act.put, List.setIfInBounds_toArray, List.set_cons_zero, List.set_cons_succ]
      refine' wpAnyH_take (i := 10) (oi := ⟨_, _, _, _, _, _⟩) (v := _) rfl (by kernel_rfl) (by kernel_rfl) (by kernel_rfl) (fun _ _ _ h => h) (Or.inl ⟨by rfl, ?hy10⟩) hS ?rest10
      case hy10 => (intro wz hSw; (try dsimp only at hSw); go_simp; try with_reducible rfl)
      try simp only [Act.put, List.setIfInBounds_toArray, List.set_cons_zero, List.set_cons_succ]
      refine' wpAnyH_take (i := 11) (oi := ⟨_, _, _, _, _, _⟩) (v := _) rfl (by kernel_rfl) (by kernel_rfl) (by kernel_rfl) (fun _ _ _ h => h) (Or.inl ⟨by rfl, ?hy11⟩) hS ?rest11
      case hy11 => (intro wz hSw; (try dsimp only at hSw); go_simp; try with_reducible rfl)
      try simp only [Act.put, List.setIfInBounds_toArray, List.set_cons_zero, List.set_cons_succ]
      refine wpAnyH_ready (rs := [12]) (by kernel_rfl) (by simp) (AllReadyH.cons rfl (fun K hK => ?_) AllReadyH.nil)
      go_simp
      go_at_call 15
      refine (hsame.out _ _ _ _ _ t.out u.out).mono ?_
      rintro e w_12 ⟨rfl, q_12⟩
      replace hri := Lib.hid (ri_below hri.out q_12)
      replace hrl := Lib.hid (ri_below hrl.out q_12)
      replace t := Lib.hid (ri_below t.out q_12)
      replace o := Lib.hid (ri_below o.out q_12)
      replace u := Lib.hid (ri_below u.out q_12)
      replace o2 := Lib.hid (ri_below o2.out q_12)
      replace bq := Lib.hid (below_on bq.out q_12)
      go_wp2_with fail
      refine hK.out _ _ (held15 q_12 hS) (fun hSn => ?_)
      clear hS
      have hS := hSn
      clear hSn
      clear hK K
      try simp only [Act.put, List.setIfInBounds_toArray, List.set_cons_zero, List.set_cons_succ]
      clear q_12
      clear t u
      refine' wpAnyH_take (i := 13) (oi := ⟨_, _, _, _, _, _⟩) (v := _) rfl (by kernel_rfl) (by kernel_rfl) (by kernel_rfl) (fun _ _ _ h => h) (Or.inl ⟨by rfl, ?hy13⟩) hS ?rest13
      case hy13 => (intro wz hSw; (try dsimp only at hSw); go_simp; try with_reducible rfl)
      try simp only [Act.put, List.setIfInBounds_toArray, List.set_cons_zero, List.set_cons_succ]
      refine' wpAnyH_take (i := 14) (oi := ⟨_, _, _, _, _, _⟩) (v := _) rfl (by kernel_rfl) (by kernel_rfl) (by kernel_rfl) (fun _ _ _ h => h) (Or.inl ⟨by rfl, ?hy14⟩) hS ?rest14
      case hy14 => (intro wz hSw; (try dsimp only at hSw); go_simp; try with_reducible rfl)
      try simp only [Act.put, List.setIfInBounds_toArray, List.set_cons_zero, List.set_cons_succ]
      refine' wpAnyH_take (i := 15) (oi := ⟨_, _, _, _, _, _⟩) (v := _) rfl (by kernel_rfl) (by kernel_rfl) (by kernel_rfl) (fun _ _ _ h => h) (Or.inl ⟨by rfl, ?hy15⟩) hS ?rest15
      case hy15 => (intro wz hSw; (try dsimp only at hSw); go_simp; try with_reducible rfl)
      try simp only [Act.put, List.setIfInBounds_toArray, List.set_cons_zero, List.set_cons_succ]
      refine' wpAnyH_take (i := 16) (oi := ⟨_, _, _, _, _, _⟩) (v := _) rfl (by kernel_rfl) (by kernel_rfl) (by kernel_rfl) (fun _ _ _ h => h) (Or.inl ⟨by rfl, ?hy16⟩) hS ?rest16
      case hy16 => (intro wz hSw; (try dsimp only at hSw); go_simp; try with_reducible rfl)
      try simp only [Act.put, List.setIfInBounds_toArray, List.set_cons_zero, List.set_cons_succ]
      refine wpAnyH_ready (rs := [17]) (by kernel_rfl) (by simp) (AllReadyH.cons rfl (fun K hK => ?_) AllReadyH.nil)
      go_simp
      go_at_call 16
      refine (same_self _ _ T1 _ (by omega) o.out o2.out).mono ?_
      rintro e w_17 ⟨rfl, q_17⟩
      replace hri := Lib.hid (ri_below hri.out q_17)
      replace hrl := Lib.hid (ri_below hrl.out q_17)
      replace o := Lib.hid (ri_below o.out q_17)
      replace o2 := Lib.hid (ri_below o2.out q_17)
      replace bq := Lib.hid (below_on bq.out q_17)
      go_wp2_with fail
      refine hK.out _ _ (held15 q_17 hS) (fun hSn => ?_)
      clear hS
      have hS := hSn
      clear hSn
      clear hK K
      try simp only [Act.put, List.setIfInBounds_toArray, List.set_cons_zero, List.set_cons_succ]
      clear q_17
      clear o o2
      refine' wpAnyH_take (i := 18) (oi := ⟨_, _, _, _, _, _⟩) (v := _) rfl (by kernel_rfl) (by kernel_rfl) (by kernel_rfl) (fun _ _ _ h => h) (Or.inl ⟨by rfl, ?hy18⟩) hS ?rest18
      case hy18 => (intro wz hSw; (try dsimp only at hSw); go_simp; try with_reducible rfl)
      try simp only [Act.put, List.setIfInBounds_toArray, List.set_cons_zero, List.set_cons_succ]
      refine' wpAnyH_take (i := 19) (oi := ⟨_, _, _, _, _, _⟩) (v := _) rfl (by kernel_rfl) (by kernel_rfl) (by kernel_rfl) (fun _ _ _ h => h) (Or.inl ⟨by rfl, ?hy19⟩) hS ?rest19
      case hy19 => (intro wz hSw; (try dsimp only at hSw); go_simp; try with_reducible rfl)
      try simp only [Act.put, List.setIfInBounds_toArray, List.set_cons_zero, List.set_cons_succ]
      refine' wpAnyH_take (i := 20) (oi := ⟨_, _, _, _, _, _⟩) (v := _) rfl (by kernel_rfl) (by kernel_rfl) (by kernel_rfl) (fun _ _ _ h => h) (Or.inl ⟨by rfl, ?hy20⟩) hS ?rest20
      case hy20 => (intro wz hSw; (try dsimp only at hSw); go_simp; try with_reducible rfl)
      try simp only [Act.put, List.setIfInBounds_toArray, List.set_cons_zero, List.set_cons_succ]
      refine' wpAnyH_take (i := 23) (oi := ⟨_, _, _, _, _, _⟩) (v := _) rfl (by kernel_rfl) (by kernel_rfl) (by kernel_rfl) (fun _ _ _ h => h) (Or.inl ⟨by rfl, ?hy23⟩) hS ?rest23
      case hy23 => (intro wz hSw; (try dsimp only at hSw); go_simp; try with_reducible rfl)
      try simp only [Act.put, List.setIfInBounds_toArray, List.set_cons_zero, List.set_cons_succ]
      refine wpAnyH_ready (rs := [21]) (by kernel_rfl) (by simp) (AllReadyH.cons rfl (fun K hK => ?_) AllReadyH.nil)
      go_simp
      go_at_call 11
      refine (hours.out _).mono ?_
      rintro e w_21 ⟨rfl, q_21⟩
      replace hri := Lib.hid (ri_below hri.out q_21)
      replace hrl := Lib.hid (ri_below hrl.out q_21)
      replace bq := Lib.hid (below_on bq.out q_21)
      go_wp2_with fail
      refine hK.out _ _ (held15 q_21 hS) (fun hSn => ?_)
      clear hS
      have hS := hSn
      clear hSn
      clear hK K
      try simp only [Act.put, List.setIfInBounds_toArray, List.set_cons_zero, List.set_cons_succ]
      clear q_21
      refine wpAnyH_ready (rs := [22]) (by kernel_rfl) (by simp) (AllReadyH.cons rfl (fun K hK => ?_) AllReadyH.nil)
      go_simp
      go_at_call 17
      refine (hend.out _ hri.out).mono ?_
      rintro e w_22 ⟨v_e1, rfl, e1, q_22⟩
      replace hri := Lib.hid (ri_below hri.out q_22)
      replace hrl := Lib.hid (ri_below hrl.out q_22)
      replace e1 := Lib.hid (e1)
      replace bq := Lib.hid (below_on bq.out q_22)
      go_wp2_with fail
      refine hK.out _ _ (held15 q_22 hS) (fun hSn => ?_)
      clear hS
      have hS := hSn
      clear hSn
      clear hK K
      try simp only [Act.put, List.setIfInBounds_toArray, List.set_cons_zero, List.set_cons_succ]
      clear q_22
      refine wpAnyH_ready (rs := [24]) (by kernel_rfl) (by simp) (AllReadyH.cons rfl (fun K hK => ?_) AllReadyH.nil)
      go_simp
      go_at_call 18
      refine (rend.out _ hri.out).mono ?_
      rintro e w_24 ⟨v_e2, rfl, e2, q_24⟩
      replace hri := Lib.hid (ri_below hri.out q_24)
      replace hrl := Lib.hid (ri_below hrl.out q_24)
      replace e1 := Lib.hid (ri_below e1.out q_24)
      replace e2 := Lib.hid (e2)
      replace bq := Lib.hid (below_on bq.out q_24)
      go_wp2_with fail
      refine hK.out _ _ (held15 q_24 hS) (fun hSn => ?_)
      clear hS
      have hS := hSn
      clear hSn
      clear hK K
      try simp only [Act.put, List.setIfInBounds_toArray, List.set_cons_zero, List.set_cons_succ]
      clear q_24
      refine wpAnyH_ready (rs := [25]) (by kernel_rfl) (by simp) (AllReadyH.cons rfl (fun K hK => ?_) AllReadyH.nil)
      go_simp
      go_at_call 16
      refine (same_self _ _ E _ (by omega) e1.out e2.out).mono ?_
      rintro e w_25 ⟨rfl, q_25⟩
      replace hri := Lib.hid (ri_below hri.out q_25)
      replace hrl := Lib.hid (ri_below hrl.out q_25)
      replace e1 := Lib.hid (ri_below e1.out q_25)
      replace e2 := Lib.hid (ri_below e2.out q_25)
      replace bq := Lib.hid (below_on bq.out q_25)
      go_wp2_with fail
      refine hK.out _ _ (held15 q_25 hS) (fun hSn => ?_)
      clear hS
      have hS := hSn
      clear hSn
      clear hK K
      try simp only [Act.put, List.setIfInBounds_toArray, List.set_cons_zero, List.set_cons_succ]
      clear q_25
      clear e1 e2
      refine' wpAnyH_take (i := 26) (oi := ⟨_, _, _, _, _, _⟩) (v := _) rfl (by kernel_rfl) (by kernel_rfl) (by kernel_rfl) (fun _ _ _ h => h) (Or.inl ⟨by rfl, ?hy26⟩) hS ?rest26
      case hy26 => (intro wz hSw; (try dsimp only at hSw); go_simp; try with_reducible rfl)
      try simp only [Act.put, List.setIfInBounds_toArray, List.set_cons_zero, List.set_cons_succ]
      refine' wpAnyH_take (i := 27) (oi := ⟨_, _, _, _, _, _⟩) (v := _) rfl (by kernel_rfl) (by kernel_rfl) (by kernel_rfl) (fun _ _ _ h => h) (Or.inl ⟨by rfl, ?hy27⟩) hS ?rest27
      case hy27 => (intro wz hSw; (try dsimp only at hSw); go_simp; try with_reducible rfl)
      try simp only [Act.put, List.setIfInBounds_toArray, List.set_cons_zero, List.set_cons_succ]
      refine' wpAnyH_take (i := 28) (oi := ⟨_, _, _, _, _, _⟩) (v := _) rfl (by kernel_rfl) (by kernel_rfl) (by kernel_rfl) (fun _ _ _ h => h) (Or.inl ⟨by rfl, ?hy28⟩) hS ?rest28
      case hy28 => (intro wz hSw; (try dsimp only at hSw); go_simp; try with_reducible rfl)
      try simp only [Act.put, List.setIfInBounds_toArray, List.set_cons_zero, List.set_cons_succ]
      refine' wpAnyH_take (i := 30) (oi := ⟨_, _, _, _, _, _⟩) (v := _) rfl (by kernel_rfl) (by kernel_rfl) (by kernel_rfl) (fun _ _ _ h => h) (Or.inl ⟨by rfl, ?hy30⟩) hS ?rest30
      case hy30 => (intro wz hSw; (try dsimp only at hSw); go_simp; try with_reducible rfl)
      try simp only [Act.put, List.setIfInBounds_toArray, List.set_cons_zero, List.set_cons_succ]
      refine wpAnyH_ready (rs := [29]) (by kernel_rfl) (by simp) (AllReadyH.cons rfl (fun K hK => ?_) AllReadyH.nil)
      go_simp
      go_at_call 20
      refine (hall.out _ hrl.out).mono ?_
      rintro e w_29 ⟨v_a1, rfl, a1, q_29⟩
      replace hri := Lib.hid (ri_below hri.out q_29)
      replace hrl := Lib.hid (ri_below hrl.out q_29)
      replace a1 := Lib.hid (a1)
      replace bq := Lib.hid (below_on bq.out q_29)
      go_wp2_with fail
      refine hK.out _ _ (held15 q_29 hS) (fun hSn => ?_)
      clear hS
      have hS := hSn
      clear hSn
      clear hK K
      try simp only [Act.put, List.setIfInBounds_toArray, List.set_cons_zero, List.set_cons_succ]
      clear q_29
      refine wpAnyH_ready (rs := [31]) (by kernel_rfl) (by simp) (AllReadyH.cons rfl (fun K hK => ?_) AllReadyH.nil)
      go_simp
      go_at_call 21
      refine (rall.out _ hrl.out).mono ?_
      rintro e w_31 ⟨v_a2, rfl, a2, q_31⟩
      replace hri := Lib.hid (ri_below hri.out q_31)
      replace hrl := Lib.hid (ri_below hrl.out q_31)
      replace a1 := Lib.hid (rr_below a1.out q_31)
      replace a2 := Lib.hid (a2)
      replace bq := Lib.hid (below_on bq.out q_31)
      go_wp2_with fail
      refine hK.out _ _ (held15 q_31 hS) (fun hSn => ?_)
      clear hS
      have hS := hSn
      clear hSn
      clear hK K
      try simp only [Act.put, List.setIfInBounds_toArray, List.set_cons_zero, List.set_cons_succ]
      clear q_31
      refine wpAnyH_ready (rs := [32]) (by kernel_rfl) (by simp) (AllReadyH.cons rfl (fun K hK => ?_) AllReadyH.nil)
      go_simp
      go_at_call 19
      refine (same_selfR _ _ A _ (by omega) n5.out a1.out a2.out).mono ?_
      rintro e w_32 ⟨rfl, q_32⟩
      replace hri := Lib.hid (ri_below hri.out q_32)
      replace hrl := Lib.hid (ri_below hrl.out q_32)
      replace a1 := Lib.hid (rr_below a1.out q_32)
      replace a2 := Lib.hid (rr_below a2.out q_32)
      replace bq := Lib.hid (below_on bq.out q_32)
      go_wp2_with fail
      refine hK.out _ _ (held15 q_32 hS) (fun hSn => ?_)
      clear hS
      have hS := hSn
      clear hSn
      clear hK K
      try simp only [Act.put, List.setIfInBounds_toArray, List.set_cons_zero, List.set_cons_succ]
      clear q_32
      refine' wpAnyH_take (i := 33) (oi := ⟨_, _, _, _, _, _⟩) (v := _) rfl (by kernel_rfl) (by kernel_rfl) (by kernel_rfl) (fun _ _ _ h => h) (Or.inl ⟨by rfl, ?hy33⟩) hS ?rest33
      case hy33 => (intro wz hSw; (try dsimp only at hSw); go_simp; try with_reducible rfl)
      try simp only [Act.put, List.setIfInBounds_toArray, List.set_cons_zero, List.set_cons_succ]
      refine' wpAnyH_take (i := 34) (oi := ⟨_, _, _, _, _, _⟩) (v := _) rfl (by kernel_rfl) (by kernel_rfl) (by kernel_rfl) (fun _ _ _ h => h) (Or.inl ⟨by rfl, ?hy34⟩) hS ?rest34
      case hy34 => (intro wz hSw; (try dsimp only at hSw); go_simp; try with_reducible rfl)
      try simp only [Act.put, List.setIfInBounds_toArray, List.set_cons_zero, List.set_cons_succ]
      refine wpAnyH_done (by kernel_rfl) ?_ _
      clear hS
      go_simp
      go_wp2_with fail
      go_ret
      exact ⟨rfl, bq.out⟩
    · have hm' : decide (150 < l.length) = true := decide_eq_true (by omega)
      have hm2 : (150 : Int) < (l.length : Int) := by omega
      obtain ⟨on, k, pi, od⟩ := z
      unfold sgV
      dsimp only
      clear hS hF hE hA
      have bx := Lib.hid (blk_new w #[.slice p s.length cap, .bool on, .int .i64 k, .bool pi, .bool od] 26)
      have nb := below_new w (.cells #[.slice p s.length cap, .bool on, .int .i64 k, .bool pi, .bool od] 26)
      replace hri := Lib.hid (ri_below hri.out nb)
      replace hrl := Lib.hid (ri_below hrl.out nb)
      have bq := Lib.hid nb
      clear nb
      go_enter Try.func3, Try.ntmps3
      go_wp2_with fail
      refine (hawake.out _).mono ?_
      rintro e w1 ⟨rfl, q1⟩
      replace bx := Lib.hid (blk_below bx.out q1)
      replace hri := Lib.hid (ri_below hri.out q1)
      replace hrl := Lib.hid (ri_below hrl.out q1)
      replace bq := Lib.hid (below_on bq.out q1)
      clear q1
      have bx_0 := blk_cell bx.out 0 _ rfl
      have bx_1 := blk_cell bx.out 1 _ rfl
      have bx_2 := blk_cell bx.out 2 _ rfl
      have bx_3 := blk_cell bx.out 3 _ rfl
      have bx_4 := blk_cell bx.out 4 _ rfl
      go_wp2_with fail
      go_ret
      exact ⟨rfl, bq.out⟩
  · have hl' : decide (60 < s.length) = true := decide_eq_true (by omega)
    have hl2 : (60 : Int) < (s.length : Int) := by omega
    obtain ⟨on, k, pi, od⟩ := z
    unfold sgV
    dsimp only
    clear hS hF hE hA
    have bx := Lib.hid (blk_new w #[.slice p s.length cap, .bool on, .int .i64 k, .bool pi, .bool od] 26)
    have nb := below_new w (.cells #[.slice p s.length cap, .bool on, .int .i64 k, .bool pi, .bool od] 26)
    replace hri := Lib.hid (ri_below hri.out nb)
    replace hrl := Lib.hid (ri_below hrl.out nb)
    have bq := Lib.hid nb
    clear nb
    go_enter Try.func3, Try.ntmps3
    go_wp2_with fail
    refine (hawake.out _).mono ?_
    rintro e w1 ⟨rfl, q1⟩
    replace bx := Lib.hid (blk_below bx.out q1)
    replace hri := Lib.hid (ri_below hri.out q1)
    replace hrl := Lib.hid (ri_below hrl.out q1)
    replace bq := Lib.hid (below_on bq.out q1)
    clear q1
    have bx_0 := blk_cell bx.out 0 _ rfl
    have bx_1 := blk_cell bx.out 1 _ rfl
    have bx_2 := blk_cell bx.out 2 _ rfl
    have bx_3 := blk_cell bx.out 3 _ rfl
    have bx_4 := blk_cell bx.out 4 _ rfl
    go_wp2_with fail
    go_ret
    exact ⟨rfl, bq.out⟩

end Go.Proofs.Ytbkgjbpnogcjeaa
