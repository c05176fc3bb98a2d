/- Layer 12: the code's Feed. -/
import Derived.Test.YtbkgjbpnogcjeaaSgA3
namespace Go.Proofs.Ytbkgjbpnogcjeaa
set_option linter.unusedSimpArgs false
set_option linter.unusedVariables false
open Go.RowKit Go.Lib

theorem well_len (l : List Int) (s : Clu.CS) : (wellS l s).1.length ≤ 32 := by
  have h := well_sane l s
  unfold Sgm.saneB at h
  simp only [Bool.and_eq_true, decide_eq_true_eq] at h
  exact h.1.1
theorem bhd_toldO {B : Nat} {v va vb : Value} {c : List Int} {q : (List Int × Clu.CS) × List Int} {w w' : World} (h : Bhd B v c q va vb w w') : OwnI B vb q.2 w' := by
  rcases h.told with ⟨rfl, h2, h3, _⟩ | ⟨rfl, h2, _⟩
  · rw [h2]
    exact h3
  · rw [h2]
    exact ownI_nil _ _

set_option maxHeartbeats 3200000 in
set_option maxRecDepth 100000 in
theorem feed12_any (v : Value) (l : List Int) (s : Clu.CS) (r : Int) (w : World) (hl : l.length ≤ 100000) (hv : RI w v l) : Calls Try.prog 10 #[sgV v s, .int .i64 r] w (FedS (Sgm.feedI l s r) w) := by
  rw [well_feed]
  have hwl := well_len l s
  obtain ⟨p, cap, rfl⟩ := ri_form hv
  obtain ⟨⟨L, S⟩, hL⟩ : ∃ L, wellS l s = L := ⟨_, rfl⟩
  rw [hL] at hwl ⊢
  obtain ⟨on, k, pi, od⟩ := s
  have hbox0 := blk_new w #[.slice p l.length cap, .bool on, .int .i64 k, .bool pi, .bool od] 30
  have hbox := blk_alloc hbox0 (.cells #[.slice none 0 0, .bool false, .int .i64 0, .bool false, .bool false] 30)
  have hres := blk_new (w.alloc (.cells #[.slice p l.length cap, .bool on, .int .i64 k, .bool pi, .bool od] 30)) #[.slice none 0 0, .bool false, .int .i64 0, .bool false, .bool false] 30
  rw [show (w.alloc (.cells #[.slice p l.length cap, .bool on, .int .i64 k, .bool pi, .bool od] 30)).heap.size = w.heap.size + 1 by simp] at hres
  have hb0 : Below w.heap.size w ((w.alloc (.cells #[.slice p l.length cap, .bool on, .int .i64 k, .bool pi, .bool od] 30)).alloc (.cells #[.slice none 0 0, .bool false, .int .i64 0, .bool false, .bool false] 30)) := (below_new w _).alloc (by simp) _
  obtain ⟨W, hW⟩ : ∃ W, (w.alloc (.cells #[.slice p l.length cap, .bool on, .int .i64 k, .bool pi, .bool od] 30)).alloc (.cells #[.slice none 0 0, .bool false, .int .i64 0, .bool false, .bool false] 30) = W := ⟨_, rfl⟩
  have hvW := ri_below hv hb0
  rw [hW] at hbox hres hb0 hvW
  have hcop := copied12_any (.slice p l.length cap) l ⟨on, k, pi, od⟩ W hl hvW
  rw [hL] at hcop
  have hbeh := fun B va W1 => behind_any B va L S r W1 hwl
  obtain ⟨q, hq⟩ : ∃ q, Sgm.stepI L S r = q := ⟨_, rfl⟩
  rw [hq] at hbeh ⊢
  obtain ⟨⟨q1, N⟩, q2⟩ := q
  obtain ⟨son, sk, spi, sod⟩ := S
  obtain ⟨non, nk, npi, nod⟩ := N
  unfold FedS
  unfold sgV at hcop hbeh ⊢
  dsimp only at hcop hbeh hL ⊢
  replace hbox := Lib.hid hbox
  replace hres := Lib.hid hres
  replace hb0 := Lib.hid hb0
  replace hvW := Lib.hid hvW
  replace hW := Lib.hid hW
  replace hcop := Lib.hid hcop
  replace hbeh := Lib.hid hbeh
  clear hv hbox0 hL hq
  go_enter Try.func10, Try.ntmps10
  go_upto_region 1 with (fail)
  rw [hW.out]
  have b0 := blk_cell hbox.out 0 _ rfl
  have b1 := blk_cell hbox.out 1 _ rfl
  have b2 := blk_cell hbox.out 2 _ rfl
  have b3 := blk_cell hbox.out 3 _ rfl
  have b4 := blk_cell hbox.out 4 _ rfl
  go_wp2_with fail
  refine hcop.out.mono ?_
  rintro e w2 ⟨va, rfl, ho2, hb2⟩
  obtain ⟨pa, qa, rfl⟩ := ri_form (ri_of_own ho2)
  have hr2 := Lib.hid (blk_below hres.out hb2)
  have hbw2 := Lib.hid (hb0.out.trans (hb2.mono hb0.out.size))
  have hs2 := Lib.hid (show W.heap.size ≤ w2.heap.size from hb2.size)
  have hsW := Lib.hid (show w.heap.size ≤ W.heap.size from hb0.out.size)
  replace ho2 := Lib.hid ho2
  clear b0 b1 b2 b3 b4 hb2
  go_wp2_with fail
  refine (hbeh.out W.heap.size _ _ ho2.out hs2.out).mono ?_
  rintro e w3 ⟨vb, vt, rfl, hbh⟩
  obtain ⟨pb, qb, rfl⟩ := ri_form (ri_of_own hbh.own)
  obtain ⟨pt, qt, rfl⟩ := ri_form (ri_of_own (bhd_toldO hbh))
  have hr3 := onlyO_blk hbh.only state_ne ho2.out hr2.out
  have hb3 := Lib.hid (onlyO_below hbh.only (ownI_mono ho2.out hsW.out) hbw2.out.size hbw2.out)
  have ht3 := Lib.hid (bhd_toldO hbh)
  have ho3 := Lib.hid hbh.own
  replace hbh := Lib.hid hbh
  have g0 := blk_cell hr3 0 _ rfl
  have g1 := blk_cell hr3 1 _ rfl
  have g2 := blk_cell hr3 2 _ rfl
  have g3 := blk_cell hr3 3 _ rfl
  have g4 := blk_cell hr3 4 _ rfl
  have f0 := blk_thaw hr3 0
  have f1 := blk_thaw hr3 1
  have f2 := blk_thaw hr3 2
  have f3 := blk_thaw hr3 3
  have f4 := blk_thaw hr3 4
  dsimp only at ht3 ho3
  have n3 := Lib.hid (blk_put5 hr3 (.slice pb q1.length qb) (.bool non) (.int .i64 nk) (.bool npi) (.bool nod))
  replace hr3 := Lib.hid hr3
  go_wp2_with fail
  have d0 := blk_cell n3.out 0 _ rfl
  have d1 := blk_cell n3.out 1 _ rfl
  have d2 := blk_cell n3.out 2 _ rfl
  have d3 := blk_cell n3.out 3 _ rfl
  have d4 := blk_cell n3.out 4 _ rfl
  refine bodyPost_ret (v := .tuple #[.agg #[.slice pb q1.length qb, .bool non, .int .i64 nk, .bool npi, .bool nod], .slice pt q2.length qt]) ?_ rfl ⟨_, _, rfl, ?_, ?_, ?_⟩
  · simp [results, Try.results10, go_sem, d0, d1, d2, d3, d4]
  · exact ri_of_own (own_put5 ho3.out (own_none (own_off12 state_ne ho3.out hr3.out)) _ _ _ _ _)
  · exact ri_of_own (own_put5 ht3.out (own_none (own_off12 state_ne ht3.out hr3.out)) _ _ _ _ _)
  · exact below_put5 hb3.out (Nat.le_succ _) _ _ _ _ _

end Go.Proofs.Ytbkgjbpnogcjeaa
