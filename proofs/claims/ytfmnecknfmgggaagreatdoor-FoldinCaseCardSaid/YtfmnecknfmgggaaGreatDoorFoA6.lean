/- Layer 10: the code's Feed. -/
import Derived.Test.YtfmnecknfmgggaaGreatDoorFoA3
import Derived.Test.YtfmnecknfmgggaaGreatDoorFoA4
import Derived.Test.YtfmnecknfmgggaaGreatDoorFoA5
namespace Go.Proofs.YtfmnecknfmgggaaGreatDoor
set_option linter.unusedSimpArgs false
set_option linter.unusedVariables false
open Go.RowKit Go.Lib

theorem lens10 {l : List Int} (h : Nor.Kept l) (a : List Int) : (Nor.feedsI l a).1.length ≤ 31 ∧ (Nor.feedsI l a).2.length ≤ 31 + 8 * a.length := by
  rw [Nor.feeds_run h]
  have h1 := Nor.kept_len (Nor.kept_run h (Nfk.madeI a))
  have h2 := Nor.run_sum l (Nfk.madeI a)
  have h3 := Nor.kept_len h
  have h4 := Nor.made_len a
  omega

theorem feeds_both (l a b : List Int) (t : List Int) : (Nor.feedsI (Nor.feedsI l a).1 b).1 = (Nor.feedsI l (a ++ b)).1 ∧ t ++ (Nor.feedsI l a).2 ++ (Nor.feedsI (Nor.feedsI l a).1 b).2 = t ++ (Nor.feedsI l (a ++ b)).2 := by
  rw [Nor.feeds_app]
  exact ⟨rfl, by rw [List.append_assoc]⟩

theorem set22 {w : World} {a : Addr} {b c : Nat} {x y u : Value} (hb : a.block ≠ b) (hc : a.block ≠ c) (h : w.cell? ⟨b, 0, none⟩ = some x ∧ w.cell? ⟨c, 0, none⟩ = some y) : (w.setCell a u).cell? ⟨b, 0, none⟩ = some x ∧ (w.setCell a u).cell? ⟨c, 0, none⟩ = some y := by
  constructor
  · rw [World.cell?_setCell_other]
    · exact h.1
    · intro e; exact hb (congrArg Addr.block e)
  · rw [World.cell?_setCell_other]
    · exact h.2
    · intro e; exact hc (congrArg Addr.block e)

abbrev dropsI (m : List Int) : List Int := m.filter (fun r => !Prp.drpB r)

/-- some of the values fed: k0 the state's block, kR the result's, k1 that of what is told, C the literal's; m is gone over -/
def Fed10C (B k0 kR k1 C k : Nat) (LL : List Int) (vD : Value) (m : List Int) (B1 : Nat) (w wr : World) : Prop :=
  ∃ vs vt, Blk wr k0 #[vs] 26 ∧ Blk wr k1 #[vt] 22 ∧ Blk wr kR #[.slice none 0 0] 26 ∧ OwnI B vs (Nor.feedsI LL (dropsI (m.take k))).1 wr ∧ OwnI B vt (Nor.feedsI LL (dropsI (m.take k))).2 wr ∧ OwnI B1 vD m wr ∧ (vD.ownBlock = none ∨ vD.ownBlock ≠ vt.ownBlock)
    ∧ Blk wr C #[.func (.func 17) #[] #[.pointer (some ⟨k0, 0, none⟩), .pointer (some ⟨k1, 0, none⟩)]] 36 ∧ Below B w wr

theorem fed_next {B k0 kR k1 C k : Nat} {LL : List Int} {vD vt : Value} {m : List Int} {B1 : Nat} {w wr w3 : World} {cs0 cs1 : Array Value} (hk : k < m.length) (hB0 : B ≤ k0) (hB1 : B ≤ k1) (hR0 : kR ≠ k0) (hR1 : kR ≠ k1) (hC0 : C ≠ k0) (hC1 : C ≠ k1)
    (h0 : Blk wr k0 cs0 26) (h1 : Blk wr k1 cs1 22) (hR : Blk wr kR #[.slice none 0 0] 26) (ht : OwnI B vt (Nor.feedsI LL (dropsI (m.take k))).2 wr) (hD : OwnI B1 vD m wr) (hap : vD.ownBlock = none ∨ vD.ownBlock ≠ vt.ownBlock)
    (hC : Blk wr C #[.func (.func 17) #[] #[.pointer (some ⟨k0, 0, none⟩), .pointer (some ⟨k1, 0, none⟩)]] 36) (hb : Below B w wr)
    (hp : PutF B k0 k1 ((Nor.feedsI (Nor.feedsI LL (dropsI (m.take k))).1 (if Prp.drpB m[k] = true then [] else [m[k]])).1, (Nor.feedsI LL (dropsI (m.take k))).2 ++ (Nor.feedsI (Nor.feedsI LL (dropsI (m.take k))).1 (if Prp.drpB m[k] = true then [] else [m[k]])).2) vt wr w3) : Fed10C B k0 kR k1 C (k + 1) LL vD m B1 w w3 := by
  obtain ⟨va, vb, g1, g2, g3, g4, g5, g6⟩ := hp
  have hkw := blk_lt h0
  have hboth := feeds_both LL (dropsI (m.take k)) (if Prp.drpB m[k] = true then [] else [m[k]]) []
  rw [left_snoc10 m k hk] at hboth
  simp only [List.nil_append] at hboth
  exact ⟨va, vb, g1, g2, only2_blk g6 state_ne_int ht hR hR0 hR1, by rw [← hboth.1]; exact g3, by rw [← hboth.2]; exact g4, only2_own g6 hD state_ne_int int_ne_ints h0 h1 hap, lies_apart hD hap g5, only2_blk g6 func_ne_int ht hC hC0 hC1, only2_below g6 ht hB0 hB1 (by omega) hb⟩

theorem feed10_well (l : List Int) (r : Int) : Fol.feedI l r = Nor.feedsI (wellI l) (dropsI (Cas.foldI r)) := by
  have h : Fol.leftI [r] = dropsI (Cas.foldI r) := by simp [Fol.leftI, Cas.allI]
  unfold Fol.feedI wellI
  rw [h]

set_option maxHeartbeats 6400000 in
set_option maxRecDepth 100000 in
theorem feed10_any (v : Value) (l : List Int) (r : Int) (w : World) (hl : l.length ≤ 10000) (hv : RI w v l) (hr : -9223372036854775808 ≤ r ∧ r ≤ 9223372036854775807) : Calls Tryz.prog 6 #[.agg #[v], .int .i64 r] w (Fed (Fol.feedI l r) w) := by
  have hmf : ∀ (fn : Fn) (first cap : Array Value) (w : World), (Instr.makeFunc fn first cap).run Tryz.prog w = .ok (.func fn first cap) w := fun _ _ _ _ => rfl
  rw [feed10_well]
  obtain ⟨p, cap, rfl⟩ := ri_form hv
  have hwk := well_kept l
  have hco := fun W h => copied10_any (.slice p l.length cap) l W hl h
  obtain ⟨L, hL⟩ : ∃ L, wellI l = L := ⟨_, rfl⟩
  rw [hL] at hwk hco ⊢
  have hml := (Cas.fold_len r).2
  have hfold := fun W => fold_any r W hr.1 hr.2
  obtain ⟨m, hm⟩ : ∃ m, Cas.foldI r = m := ⟨_, rfl⟩
  rw [hm] at hml hfold ⊢
  have hlens := fun a => lens10 hwk a
  obtain ⟨P, hP⟩ : ∃ P, Nor.feedsI L (dropsI m) = P := ⟨_, rfl⟩
  rw [hP]
  obtain ⟨P1, P2⟩ := P
  replace hP := Lib.hid hP
  -- the world behind the variables
  have hs1 : (w.alloc (.cells #[.slice p l.length cap] 26)).heap.size = w.heap.size + 1 := by simp
  have hs2 : ((w.alloc (.cells #[.slice p l.length cap] 26)).alloc (.cells #[.slice none 0 0] 26)).heap.size = w.heap.size + 2 := by simp
  have x0 := blk_alloc (blk_alloc (blk_new w #[.slice p l.length cap] 26) (.cells #[.slice none 0 0] 26)) (.cells #[.slice none 0 0] 22)
  have xR := blk_new (w.alloc (.cells #[.slice p l.length cap] 26)) #[.slice none 0 0] 26
  rw [hs1] at xR
  replace xR := blk_alloc xR (.cells #[.slice none 0 0] 22)
  have x1 := blk_new ((w.alloc (.cells #[.slice p l.length cap] 26)).alloc (.cells #[.slice none 0 0] 26)) #[.slice none 0 0] 22
  rw [hs2] at x1
  have hb1 := ((below_new w (.cells #[.slice p l.length cap] 26)).alloc (by simp) (.cells #[.slice none 0 0] 26)).alloc (by simp; omega) (.cells #[.slice none 0 0] 22)
  have hs3 : (((w.alloc (.cells #[.slice p l.length cap] 26)).alloc (.cells #[.slice none 0 0] 26)).alloc (.cells #[.slice none 0 0] 22)).heap.size = w.heap.size + 3 := by simp
  obtain ⟨W, hW⟩ : ∃ W, ((w.alloc (.cells #[.slice p l.length cap] 26)).alloc (.cells #[.slice none 0 0] 26)).alloc (.cells #[.slice none 0 0] 22) = W := ⟨_, rfl⟩
  rw [hW] at x0 xR x1 hb1 hs3
  have hcoW := Lib.hid (hco W (ri_below hv hb1))
  replace x0 := Lib.hid x0
  replace x1 := Lib.hid x1
  replace xR := Lib.hid xR
  replace hb1 := Lib.hid hb1
  replace hW := Lib.hid hW
  replace hs3 := Lib.hid hs3
  replace hfold := Lib.hid hfold
  replace hlens := Lib.hid hlens
  clear hv hL hm hs1 hs2 hco hwk
  go_enter Tryz.func6, Tryz.ntmps6
  go_upto_region 2 with (fail)
  rw [hW.out]
  have b0 := blk_cell x0.out 0 _ rfl
  go_wp2_with fail
  refine hcoW.out.mono ?_
  rintro e w2 ⟨va, rfl, ho2, hb2⟩
  obtain ⟨pa, ca, rfl⟩ := ri_form (ri_of_own ho2)
  have x02 := blk_below x0.out hb2
  have c2 := blk_cell x02 0 _ rfl
  have f2 := blk_thaw x02 0
  have hz2 : w.heap.size + 3 ≤ w2.heap.size := by have := hb2.size; rw [hs3.out] at this; exact this
  have y0 := blk_set (u := .slice pa L.length ca) x02
  have y1 := blk_other (j := w.heap.size) (u := .slice pa L.length ca) (blk_below x1.out hb2) (by omega)
  have yR := blk_other (j := w.heap.size) (u := .slice pa L.length ca) (blk_below xR.out hb2) (by omega)
  have o3 := ownI_mono (B := w.heap.size) (ownI_set ho2 ⟨w.heap.size, 0, none⟩ (.slice pa L.length ca) (.inr (own_offT state_ne_int ho2 x02))) (by rw [hs3.out]; omega)
  have hb3 := (below_on hb1.out hb2).setCell (p := ⟨w.heap.size, 0, none⟩) (Nat.le_refl _) (.slice pa L.length ca)
  have hz3 : w.heap.size + 3 ≤ (w2.setCell ⟨w.heap.size, 0, none⟩ (.slice pa L.length ca)).heap.size := by simp; exact hz2
  clear b0 ho2 hb2
  replace y0 := Lib.hid y0
  replace y1 := Lib.hid y1
  replace yR := Lib.hid yR
  replace o3 := Lib.hid o3
  replace hb3 := Lib.hid hb3
  replace hz3 := Lib.hid hz3
  replace hz2 := Lib.hid hz2
  replace x02 := Lib.hid x02
  go_upto_region 3 with (fail)
  generalize hwq : w2.setCell ⟨w.heap.size, 0, none⟩ (.slice pa L.length ca) = V at *
  have hcut := feedCut_any w.heap.size (w.heap.size + 2) V
  have zC := blk_new V #[.func (.func 17) #[] #[.pointer (some ⟨w.heap.size, 0, none⟩), .pointer (some ⟨w.heap.size + 2, 0, none⟩)]] 36
  have z0 := Lib.hid (blk_alloc y0.out (.cells #[.func (.func 17) #[] #[.pointer (some ⟨w.heap.size, 0, none⟩), .pointer (some ⟨w.heap.size + 2, 0, none⟩)]] 36))
  have z1 := Lib.hid (blk_alloc y1.out (.cells #[.func (.func 17) #[] #[.pointer (some ⟨w.heap.size, 0, none⟩), .pointer (some ⟨w.heap.size + 2, 0, none⟩)]] 36))
  have zR := Lib.hid (blk_alloc yR.out (.cells #[.func (.func 17) #[] #[.pointer (some ⟨w.heap.size, 0, none⟩), .pointer (some ⟨w.heap.size + 2, 0, none⟩)]] 36))
  have o4 := Lib.hid (ownI_alloc o3.out (.cells #[.func (.func 17) #[] #[.pointer (some ⟨w.heap.size, 0, none⟩), .pointer (some ⟨w.heap.size + 2, 0, none⟩)]] 36))
  have hb4 := Lib.hid (hb3.out.alloc hb3.out.size (.cells #[.func (.func 17) #[] #[.pointer (some ⟨w.heap.size, 0, none⟩), .pointer (some ⟨w.heap.size + 2, 0, none⟩)]] 36))
  obtain ⟨U, hU⟩ : ∃ U, V.alloc (.cells #[.func (.func 17) #[] #[.pointer (some ⟨w.heap.size, 0, none⟩), .pointer (some ⟨w.heap.size + 2, 0, none⟩)]] 36) = U := ⟨_, rfl⟩
  rw [hU] at zC z0 z1 zR o4 hb4
  replace hcut := Lib.hid hcut
  replace zC := Lib.hid zC
  replace hU := Lib.hid hU
  replace hwq := Lib.hid hwq
  clear c2 f2 y0 y1 yR o3 hb3
  go_wp2_with fail
  refine hcut.out.mono ?_
  rintro e w1 ⟨rfl, rfl⟩
  rw [hU.out]
  have hVs := hz3
  obtain ⟨C, hC⟩ : ∃ C, V.heap.size = C := ⟨_, rfl⟩
  rw [hC] at zC hVs ⊢
  clear hcut
  replace hC := Lib.hid hC
  go_wp2_with fail
  refine (hfold.out _).mono ?_
  rintro e w5 ⟨vD, rfl, hD, hb5⟩
  have q5 : Fed10C w.heap.size w.heap.size (w.heap.size + 1) (w.heap.size + 2) C 0 L vD m U.heap.size w w5 :=
    ⟨_, _, blk_below z0.out hb5, blk_below z1.out hb5, blk_below zR.out hb5, ownI_below o4.out hb5, ownI_nil _ _, hD, own_apart hD (ownI_nil 0 U), blk_below zC.out hb5, below_on hb4.out hb5⟩
  obtain ⟨pD, cD, rfl⟩ := ri_form (ri_of_own hD)
  replace q5 := Lib.hid q5
  clear hD hb5
  go_wp2_with fail
  go_loopg [17] m.length (fun g vi wr => ∃ k : Nat, k ≤ m.length ∧ vi = .int .i64 k ∧ g = m.length - k ∧ Fed10C w.heap.size w.heap.size (w.heap.size + 1) (w.heap.size + 2) C k L (.slice pD m.length cD) m U.heap.size w wr)
  case atStart => exact ⟨0, Nat.zero_le _, rfl, rfl, q5.out⟩
  case round =>
    obtain ⟨k, hk, rfl, rfl, vs, vt, h0, h1, hR, hs, ht, hD, hap, hC2, hb⟩ := hrel
    by_cases hlt : k < m.length
    · have hlt' : (k : Int) < (m.length : Int) := by omega
      obtain ⟨b, off, rfl, _, hcell⟩ := ri_at (ri_of_own hD) (by omega)
      have hc := hcell k hlt
      have hlen := hlens.out (dropsI (m.take k))
      have hdl : (dropsI (m.take k)).length ≤ k := Nat.le_trans (List.length_filter_le _ _) (by rw [List.length_take]; exact Nat.min_le_left _ _)
      have hVs2 := hVs.out
      have htake := feedTake_any w.heap.size C w.heap.size (w.heap.size + 2) (Nor.feedsI L (dropsI (m.take k))).1 (Nor.feedsI L (dropsI (m.take k))).2 m[k] vs vt wr (by omega) (by omega) h0 h1 (by omega) (Nat.le_refl _) (by omega) hs ht hC2
      have hnext := fun w3 hp => fed_next (w3 := w3) (kR := w.heap.size + 1) hlt (Nat.le_refl _) (show w.heap.size ≤ w.heap.size + 2 by omega) (by omega) (by omega) (by omega) (by omega) h0 h1 hR ht hD hap hC2 hb hp
      obtain ⟨x, hx⟩ : ∃ x, m[k] = x := ⟨_, rfl⟩
      rw [hx] at hc htake hnext
      obtain ⟨q, hq⟩ : ∃ q, ((Nor.feedsI (Nor.feedsI L (dropsI (m.take k))).1 (if Prp.drpB x = true then [] else [x])).1, (Nor.feedsI L (dropsI (m.take k))).2 ++ (Nor.feedsI (Nor.feedsI L (dropsI (m.take k))).1 (if Prp.drpB x = true then [] else [x])).2) = q := ⟨_, rfl⟩
      rw [hq] at htake hnext
      replace htake := Lib.hid htake
      replace hnext := Lib.hid hnext
      clear hcell hx hq h0 h1 hR hs ht hD hap hC2 hb hlen hdl hVs2
      go_wp2_with fail
      refine htake.out.mono ?_
      rintro e w3 ⟨rfl, hp3⟩
      have q3 := Lib.hid (hnext.out w3 hp3)
      clear hp3
      go_wp2_with fail
      go_roundg (m.length - (k + 1))
      case measure => omega
      case rel => exact ⟨k + 1, by omega, by go_num, rfl, q3.out⟩
    · obtain rfl : k = m.length := by omega
      have hlt' : decide ((m.length : Int) < (m.length : Int)) = false := by simp
      rw [List.take_length, hP.out] at hs ht
      dsimp only at hs ht
      obtain ⟨ps, cs, rfl⟩ := ri_form (ri_of_own hs)
      obtain ⟨pt, ct, rfl⟩ := ri_form (ri_of_own ht)
      have e0 := blk_cell h0 0 _ rfl
      have e1 := blk_cell h1 0 _ rfl
      have r4 := blk_cell hR 0 _ rfl
      have f4 := blk_thaw hR 0
      have n0 := Lib.hid (show w.heap.size + 1 ≠ w.heap.size by omega)
      have n1 := Lib.hid (show w.heap.size + 1 ≠ w.heap.size + 2 by omega)
      have o8 := Lib.hid (ownI_set hs ⟨w.heap.size + 1, 0, none⟩ (.slice ps P1.length cs) (.inr (own_offT state_ne_int hs hR)))
      have o9 := Lib.hid (ownI_set ht ⟨w.heap.size + 1, 0, none⟩ (.slice ps P1.length cs) (.inr (own_offT state_ne_int ht hR)))
      have hb9 := Lib.hid (hb.setCell (p := ⟨w.heap.size + 1, 0, none⟩) (Nat.le_succ _) (.slice ps P1.length cs))
      have d4 := blk_cell (blk_set (u := .slice ps P1.length cs) hR) 0 _ rfl
      clear hs ht hD hap hC2 hb h0 h1
      replace hR := Lib.hid hR
      go_upto_region 9 with (fail)
      refine wp_region_held_drew (S := fun w' => w'.cell? ⟨w.heap.size, 0, none⟩ = some (.slice ps P1.length cs) ∧ w'.cell? ⟨w.heap.size + 2, 0, none⟩ = some (.slice pt P2.length ct)) (by kernel_rfl) (⟨e0, e1⟩) (fun hS => ?_)
      refine' wpAnyH_take (i := 0) (oi := ⟨_, _, _, _, _, _⟩) (v := _) rfl (by kernel_rfl) (by kernel_rfl) (by kernel_rfl) (fun _ _ _ h => h) (Or.inl ⟨by rfl, ?hy0⟩) hS ?rest0
      case hy0 => (intro wz hSw; (try dsimp only at hSw); go_simp; try with_reducible rfl)
      try simp only [Act.put, List.setIfInBounds_toArray, List.set_cons_zero, List.set_cons_succ]
      refine' wpAnyH_take (i := 1) (oi := ⟨_, _, _, _, _, _⟩) (v := _) rfl (by kernel_rfl) (by kernel_rfl) (by kernel_rfl) (fun _ _ _ h => h) (Or.inl ⟨by rfl, ?hy1⟩) hS ?rest1
      case hy1 => (intro wz hSw; (try dsimp only at hSw); go_simp; try with_reducible rfl)
      try simp only [Act.put, List.setIfInBounds_toArray, List.set_cons_zero, List.set_cons_succ]
      refine wpAnyH_ready (rs := [2]) (by kernel_rfl) (by simp) (AllReadyH.cons rfl (fun K hK => ?_) AllReadyH.nil)
      go_simp
      go_wp2_with fail
      refine hK.out _ _ (set22 n0.out n1.out hS) (fun hSn => ?_)
      clear hS
      have hS := hSn
      clear hSn
      clear hK K
      try simp only [Act.put, List.setIfInBounds_toArray, List.set_cons_zero, List.set_cons_succ]
      refine' wpAnyH_take (i := 3) (oi := ⟨_, _, _, _, _, _⟩) (v := _) rfl (by kernel_rfl) (by kernel_rfl) (by kernel_rfl) (fun _ _ _ h => h) (Or.inl ⟨by rfl, ?hy3⟩) hS ?rest3
      case hy3 => (intro wz hSw; (try dsimp only at hSw); go_simp; try with_reducible rfl)
      try simp only [Act.put, List.setIfInBounds_toArray, List.set_cons_zero, List.set_cons_succ]
      refine wpAnyH_done (by kernel_rfl) ?_ _
      go_wp2_with fail
      refine bodyPost_ret (v := .tuple #[.agg #[.slice ps P1.length cs], .slice pt P2.length ct]) ?_ rfl ⟨_, _, rfl, o8.out, o9.out, hb9.out.drew⟩
      simp [results, Tryz.results6, go_sem, d4]

theorem feedC10 : FeedC10 := fun v l r w hl hv hr => (feed10_any v l r w hl hv hr).mono fun e w' ⟨va, vb, h1, h2, h3, h4⟩ => ⟨va, vb, h1, ri_of_own h2, ri_of_own h3, h4⟩

end Go.Proofs.YtfmnecknfmgggaaGreatDoor
