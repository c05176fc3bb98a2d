/- Texts that stand together. -/
import Derived.Test.YtiidjkhkcckmkaaGreatDoorNoP
import Derived.Test.YtiidjkhkcckmkaaGreatDoorKP
/- Layer 9: Feed. -/
namespace Go.Proofs.YtiidjkhkcckmkaaGreatDoor
set_option linter.unusedSimpArgs false
set_option linter.unusedVariables false
open Go.RowKit Go.Lib
theorem blk_low {B : Nat} {w w1 : World} {k : Nat} {cs : Array Value} {T : TypeId} (h : Blk w k cs T) (hk : k < B) (hb : Below B w w1) : Blk w1 k cs T := by
  unfold Blk at *
  rw [hb.block k hk]
  exact h
theorem set2 {w : World} {a : Addr} {b : Nat} {x y u : Value} (hne : a.block ≠ b) (h : w.cell? ⟨b, 0, none⟩ = some x ∧ w.cell? ⟨b, 1, none⟩ = some y) : (w.setCell a u).cell? ⟨b, 0, none⟩ = some x ∧ (w.setCell a u).cell? ⟨b, 1, none⟩ = some y := by
  constructor
  · rw [World.cell?_setCell_other]
    · exact h.1
    · intro e; exact hne (congrArg Addr.block e)
  · rw [World.cell?_setCell_other]
    · exact h.2
    · intro e; exact hne (congrArg Addr.block e)
/-- a putter made -/
theorem at9_start {B : Nat} {va : Value} {m : List Int} {w : World} (ho : OwnI B va m w) (hB : B ≤ w.heap.size) : At9 B w.heap.size none (w.alloc (.cells #[va, .slice none 0 0] 123)) m [] va (.slice none 0 0) (w.alloc (.cells #[va, .slice none 0 0] 123)) := by
  refine ⟨blk_new _ _ _, ownI_alloc ho _, ownI_nil _ _, hB, ?_, (fun _ e => by cases e), Below.refl _ _, (fun _ e => by cases e)⟩
  cases h : va.ownBlock with
  | none => exact .inl rfl
  | some k => exact .inr (fun e => by cases e)
set_option maxHeartbeats 3200000 in
set_option maxRecDepth 100000 in
theorem feedC9 : FeedC9 := by
  intro v l r w hl hv
  obtain ⟨p, cap, rfl⟩ := ri_form hv
  have hbox0 := blk_new w #[.slice p l.length cap] 36
  have hbox := blk_alloc hbox0 (.cells #[.slice none 0 0] 36)
  have hres := blk_new (w.alloc (.cells #[.slice p l.length cap] 36)) #[.slice none 0 0] 36
  rw [show (w.alloc (.cells #[.slice p l.length cap] 36)).heap.size = w.heap.size + 1 by simp] at hres
  have hb0 : Below w.heap.size w ((w.alloc (.cells #[.slice p l.length cap] 36)).alloc (.cells #[.slice none 0 0] 36)) := (below_new w _).alloc (by simp) _
  have hz0 : w.heap.size + 2 ≤ ((w.alloc (.cells #[.slice p l.length cap] 36)).alloc (.cells #[.slice none 0 0] 36)).heap.size := by simp
  obtain ⟨W, hW⟩ : ∃ W, (w.alloc (.cells #[.slice p l.length cap] 36)).alloc (.cells #[.slice none 0 0] 36) = W := ⟨_, rfl⟩
  have hvW := ri_below hv hb0
  rw [hW] at hbox hres hb0 hvW hz0
  have hco := copied_any (.slice p l.length cap) l W hl hvW
  have hwk := well_kept l
  have hfd : Nor.feedI l r = Nor.runI (wellI l) (Dcp.fullI r) := rfl
  rw [hfd]
  obtain ⟨m, hm⟩ : ∃ m, wellI l = m := ⟨_, rfl⟩
  rw [hm] at hco hwk ⊢
  obtain ⟨L, T, hres9⟩ : ∃ L T, Nor.runI m (Dcp.fullI r) = (L, T) := ⟨_, _, rfl⟩
  have hLT := Lib.hid (show (Nor.runI m (Dcp.fullI r)).1 = L ∧ (Nor.runI m (Dcp.fullI r)).2 = T by rw [hres9]; exact ⟨rfl, rfl⟩)
  rw [hres9]
  replace hbox := Lib.hid hbox
  replace hres := Lib.hid hres
  replace hb0 := Lib.hid hb0
  replace hco := Lib.hid hco
  replace hW := Lib.hid hW
  replace hwk := Lib.hid hwk
  clear hv hbox0 hfd hm hvW hres9
  go_enter Tryz.func58, Tryz.ntmps58
  go_upto_region 1 with (fail)
  rw [hW.out]
  have b0 := blk_cell hbox.out 0 _ rfl
  go_wp2_with fail
  refine hco.out.mono ?_
  rintro e w2 ⟨va, rfl, ho2, hb2⟩
  obtain ⟨pa, ca, rfl⟩ := ri_form (ri_of_own ho2)
  replace ho2 := Lib.hid ho2
  have hr2 := Lib.hid (blk_below hres.out hb2)
  replace hb2 := Lib.hid hb2
  clear b0
  go_wp2_with fail
  have hB2 : W.heap.size ≤ w2.heap.size := hb2.out.size
  have hpf := pfeed_any W.heap.size w2.heap.size m [] r _ _ _ hwk.out (by simp) (at9_start ho2.out hB2)
  rw [List.nil_append, hLT.out.1, hLT.out.2] at hpf
  have hbel := Lib.hid (hb0.out.trans ((hb2.out.alloc hB2 (.cells #[Value.slice pa m.length ca, .slice none 0 0] 123)).mono hb0.out.size))
  replace hr2 := Lib.hid (blk_alloc hr2.out (.cells #[Value.slice pa m.length ca, .slice none 0 0] 123))
  refine hpf.mono ?_
  rintro e w4 ⟨rfl, vl, vt, q⟩
  obtain ⟨pl, cl, rfl⟩ := ri_form (ri_of_own q.kept)
  obtain ⟨pt, ct, rfl⟩ := ri_form (ri_of_own q.told)
  have hb4 := Lib.hid (hbel.out.trans (q.below.mono (by omega)))
  have hr4 := blk_low hr2.out (by omega) q.below
  have r4 := blk_cell hr4 0 _ rfl
  have f4 := blk_thaw hr4 0
  have q4 := Lib.hid q
  have e0 := blk_cell q.box 0 _ rfl
  have e1 := blk_cell q.box 1 _ rfl
  have hlt : w.heap.size + 1 < W.heap.size := by omega
  have hne0 := Lib.hid (show w.heap.size + 1 ≠ w2.heap.size by omega)
  clear q hpf
  go_upto_region 3 with (fail)
  refine wp_region_held_drew (S := fun w' => w'.cell? ⟨w2.heap.size, 0, none⟩ = some (.slice pl L.length cl) ∧ w'.cell? ⟨w2.heap.size, 1, none⟩ = some (.slice pt T.length ct)) (by kernel_rfl) (⟨e0, e1⟩) (fun hS => ?_)
  refine' wpAnyH_take (i := 0) (oi := ⟨_, _, _, _, _, _⟩) (v := _) rfl (by kernel_rfl) (by kernel_rfl) (by kernel_rfl) (fun _ _ _ h => h) (Or.inl ⟨by rfl, ?hy0⟩) hS ?rest0
  case hy0 => (intro wz hSw; (try dsimp only at hSw); go_simp; try with_reducible rfl)
  try simp only [Act.put, List.setIfInBounds_toArray, List.set_cons_zero, List.set_cons_succ]
  refine' wpAnyH_take (i := 1) (oi := ⟨_, _, _, _, _, _⟩) (v := _) rfl (by kernel_rfl) (by kernel_rfl) (by kernel_rfl) (fun _ _ _ h => h) (Or.inl ⟨by rfl, ?hy1⟩) hS ?rest1
  case hy1 => (intro wz hSw; (try dsimp only at hSw); go_simp; try with_reducible rfl)
  try simp only [Act.put, List.setIfInBounds_toArray, List.set_cons_zero, List.set_cons_succ]
  refine' wpAnyH_take (i := 2) (oi := ⟨_, _, _, _, _, _⟩) (v := _) rfl (by kernel_rfl) (by kernel_rfl) (by kernel_rfl) (fun _ _ _ h => h) (Or.inl ⟨by rfl, ?hy2⟩) hS ?rest2
  case hy2 => (intro wz hSw; (try dsimp only at hSw); go_simp; try with_reducible rfl)
  try simp only [Act.put, List.setIfInBounds_toArray, List.set_cons_zero, List.set_cons_succ]
  refine' wpAnyH_take (i := 3) (oi := ⟨_, _, _, _, _, _⟩) (v := _) rfl (by kernel_rfl) (by kernel_rfl) (by kernel_rfl) (fun _ _ _ h => h) (Or.inl ⟨by rfl, ?hy3⟩) hS ?rest3
  case hy3 => (intro wz hSw; (try dsimp only at hSw); go_simp; try with_reducible rfl)
  try simp only [Act.put, List.setIfInBounds_toArray, List.set_cons_zero, List.set_cons_succ]
  refine wpAnyH_ready (rs := [4]) (by kernel_rfl) (by simp) (AllReadyH.cons rfl (fun K hK => ?_) AllReadyH.nil)
  go_simp
  go_wp2_with fail
  refine hK.out _ _ (set2 hne0.out hS) (fun hSn => ?_)
  clear hS
  have hS := hSn
  clear hSn
  clear hK K
  try simp only [Act.put, List.setIfInBounds_toArray, List.set_cons_zero, List.set_cons_succ]
  refine' wpAnyH_take (i := 5) (oi := ⟨_, _, _, _, _, _⟩) (v := _) rfl (by kernel_rfl) (by kernel_rfl) (by kernel_rfl) (fun _ _ _ h => h) (Or.inl ⟨by rfl, ?hy5⟩) hS ?rest5
  case hy5 => (intro wz hSw; (try dsimp only at hSw); go_simp; try with_reducible rfl)
  try simp only [Act.put, List.setIfInBounds_toArray, List.set_cons_zero, List.set_cons_succ]
  refine wpAnyH_done (by kernel_rfl) ?_ _
  have o1 := Lib.hid (ownI_mono (ownI_set q4.out.kept ⟨w.heap.size + 1, 0, none⟩ (.slice pl L.length cl) (ownI_ne q4.out.kept hlt)) (show w.heap.size ≤ W.heap.size by omega))
  have o2 := Lib.hid (ownI_mono (ownI_set q4.out.told ⟨w.heap.size + 1, 0, none⟩ (.slice pl L.length cl) (ownI_ne q4.out.told hlt)) (show w.heap.size ≤ W.heap.size by omega))
  have hb5 := Lib.hid (hb4.out.setCell (p := ⟨w.heap.size + 1, 0, none⟩) (Nat.le_succ _) (.slice pl L.length cl))
  have d4 := blk_cell (blk_set (u := .slice pl L.length cl) hr4) 0 _ rfl
  go_wp2_with fail
  refine bodyPost_ret (v := .tuple #[.agg #[.slice pl L.length cl], .slice pt T.length ct]) ?_ rfl ⟨_, _, rfl, o1.out, o2.out, hb5.out.drew⟩
  simp [results, Tryz.results58, go_sem, d4]
end Go.Proofs.YtiidjkhkcckmkaaGreatDoor

/- Layer 9: End. -/
namespace Go.Proofs.YtiidjkhkcckmkaaGreatDoor
set_option linter.unusedSimpArgs false
set_option linter.unusedVariables false
open Go.RowKit Go.Lib
/-- what a State holds -/
theorem field_state (v : Value) (w : World) : (Instr.field 36 (.agg #[v]) 0).run Tryz.prog w = .ok v w := by kernel_rfl
set_option maxHeartbeats 1600000 in
set_option maxRecDepth 100000 in
theorem end9_own (v : Value) (l : List Int) (w : World) (hl : l.length ≤ 10000) (hv : RI w v l) : Calls Tryz.prog 74 #[.agg #[v]] w (Makes (Nor.endI l) w) := by
  obtain ⟨p, cap, rfl⟩ := ri_form hv
  have hbox := blk_new w #[.slice p l.length cap] 36
  have hb0 := below_new w (.cells #[.slice p l.length cap] 36)
  obtain ⟨W, hW⟩ : ∃ W, w.alloc (.cells #[.slice p l.length cap] 36) = W := ⟨_, rfl⟩
  have hvW := ri_below hv hb0
  rw [hW] at hbox hb0 hvW
  rw [well_end]
  have hco := copied_any (.slice p l.length cap) l W hl hvW
  have hwl := Nor.kept_len (well_kept l)
  obtain ⟨m, hm⟩ : ∃ m, wellI l = m := ⟨_, rfl⟩
  rw [hm] at hco hwl ⊢
  have hcm := fun V (W : World) h => compose_own7 joinYes joinNot V m W (by omega) h
  obtain ⟨E, hE⟩ : ∃ E, Can.composeI m = E := ⟨_, rfl⟩
  rw [hE] at hcm ⊢
  replace hcm := Lib.hid hcm
  replace hco := Lib.hid hco
  replace hW := Lib.hid hW
  replace hb0 := Lib.hid hb0
  replace hbox := Lib.hid hbox
  clear hv hvW hE hm
  go_enter Tryz.func74, Tryz.ntmps74
  go_upto_region 1 with (fail)
  rw [hW.out]
  have b0 := blk_cell hbox.out 0 _ rfl
  go_wp2_with fail
  refine hco.out.mono ?_
  rintro e w2 ⟨va, rfl, ho2, hb2⟩
  obtain ⟨pa, ca, rfl⟩ := ri_form (ri_of_own ho2)
  have hv2 := Lib.hid (ri_of_own ho2)
  replace hb2 := Lib.hid (hb0.out.trans (hb2.mono hb0.out.size))
  clear b0 ho2
  have hfd := field_state (.slice pa m.length ca) w2
  go_wp2_with fail
  refine (hcm.out _ _ hv2.out).mono ?_
  rintro e w3 ⟨v3, rfl, hv3, hb3⟩
  replace hv3 := Lib.hid hv3
  replace hb3 := Lib.hid (below_on hb2.out hb3)
  go_wp2_with fail
  go_ret
  exact ⟨_, rfl, ownI_mono hv3.out hb2.out.size, hb3.out⟩
theorem endC9 : EndC9 := fun v l w hl hv => (end9_own v l w hl hv).mono fun _ _ => told_of_makes
end Go.Proofs.YtiidjkhkcckmkaaGreatDoor

/- Layer 9: All. -/
namespace Go.Proofs.YtiidjkhkcckmkaaGreatDoor
set_option linter.unusedSimpArgs false
set_option linter.unusedVariables false
open Go.RowKit Go.Lib
/-- an append of what may be nil, as one step of a statement whose order is open -/
theorem step_append_src {P : Program} {ops : Array Oper} {o : Oper} {a : Act} {w : World} {K : Act → World → Prop} {Q : Exit → Act → World → Prop} {E : Prop}
    (hg : o.guard = none) (s x : Operand) (t : TypeId) (hop : o.op = Op.call { callee := Callee.builtin Builtin.append, args := #[s, x], argTypes := #[t, t] })
    (base : Nat) (e : TypeId) (i : TypeInfo) (z : Value) (bytes : Nat) (h1 : P.underlying t = some (.slice e)) (h2 : P.info? e = some i) (h3 : i.zero = some z) (h4 : i.size = 1) (h5 : i.bytes = bytes) (h6 : z.cells.size = 1)
    (v : Value) (n : Nat) (xs : List Value) (hs : a.eval s = v) (hown : w.ownsRow base e 1 v n xs)
    (y : Value) (news : List Value) (hx : a.eval x = y) (hsrc : Src w y news) (h1c : ∀ u ∈ news, u.oneCell' = true)
    (b1 : n + news.length ≤ maxLen) (b2 : (n + news.length) * bytes ≤ 140737488355328) (hb : base ≤ w.heap.size)
    (hK : ∀ v' w', w'.ownsRow base e 1 v' (n + news.length) (xs ++ news) → w.grownBy w' v.ownBlock → K (a.put o.dst v') w') :
    if Region.wanted o (yielded ops a.tmps) = true then Oper.wp P o a w K Q else E := by
  rcases hsrc with ⟨rfl, rfl⟩ | ⟨ad, c, rfl, hc⟩
  · exact step_append_own_none hg s x t hop base e i 1 h1 h2 v n xs hs hown hx (hK v w (by simpa using hown) ⟨rfl, rfl, rfl, Nat.le_refl _, fun _ _ _ => rfl⟩)
  · exact step_append_own hg s x t hop base e i z 1 bytes h1 h2 h3 h4 h5 h6 (by decide) v n xs hs hown ad news.length c news hx (by simp) hc h1c b1 b2 hb hK
namespace Nor
theorem feeds_snoc9 (l : List Int) (k : Nat) (hk : k < l.length) : (runI (feedsI [] (l.take k)).1 (Dcp.fullI l[k])).1 = (feedsI [] (l.take (k + 1))).1 ∧ (feedsI [] (l.take k)).2 ++ (runI (feedsI [] (l.take k)).1 (Dcp.fullI l[k])).2 = (feedsI [] (l.take (k + 1))).2 := by
  rw [List.take_succ_eq_append_getElem hk, feeds_app]
  have : feedI (feedsI [] (l.take k)).1 l[k] = runI (feedsI [] (l.take k)).1 (Dcp.fullI l[k]) := by
    unfold feedI
    rw [if_pos (kept_sane (kept_feeds _))]
  simp [feedsI, this]
theorem feeds_told (l a : List Int) : (feedsI l a).2.length ≤ 130 * a.length := by
  induction a generalizing l with
  | nil => simp [feedsI]
  | cons x t ih =>
    have h1 := feed_told l x
    have h2 := ih (feedI l x).1
    simp only [feedsI, List.length_append, List.length_cons]
    omega
end Nor
/-- some of the values fed -/
def Ate (B : Nat) (l : List Int) (k : Nat) (w1 wr : World) : Prop := ∃ va vb, At9 B B none w1 (Nor.feedsI [] (l.take k)).1 (Nor.feedsI [] (l.take k)).2 va vb wr
set_option maxHeartbeats 3200000 in
set_option maxRecDepth 100000 in
theorem all9_wide (v : Value) (l : List Int) (w : World) (hl : l.length ≤ 40000) (hv : RI w v l) : Calls Tryz.prog 130 #[v] w (Told (Nor.allI l) w) := by
  obtain ⟨i0, hi, hz0, hz1, hz2⟩ := info_parts info_i
  obtain ⟨p, cap, rfl⟩ := ri_form hv
  have hb0 := below_new w (.cells #[.slice none 0 0, .slice none 0 0] 123)
  have q0 := at9_start (ownI_nil w.heap.size w) (Nat.le_refl w.heap.size)
  obtain ⟨M, hM⟩ : ∃ M, Nor.allI l = M := ⟨_, rfl⟩
  rw [hM]
  replace hM := Lib.hid hM
  replace hv := Lib.hid hv
  replace hb0 := Lib.hid hb0
  replace q0 := Lib.hid q0
  go_enter Tryz.func130, Tryz.ntmps130
  go_wp2_with fail
  go_loopg [8] l.length (fun n vk wr => ∃ k : Nat, k ≤ l.length ∧ vk = .int .i64 k ∧ n = l.length - k ∧ Ate w.heap.size l k (w.alloc (.cells #[.slice none 0 0, .slice none 0 0] 123)) wr)
  case atStart => exact ⟨0, Nat.zero_le _, rfl, rfl, _, _, by simpa [Nor.feedsI] using q0.out⟩
  case round =>
    obtain ⟨k, hk, rfl, rfl, va, vb, q⟩ := hrel
    have hbw := Lib.hid (hb0.out.trans q.below)
    by_cases hlt : k < l.length
    · have hlt' : (k : Int) < (l.length : Int) := by omega
      obtain ⟨x, hx⟩ : ∃ x, l[k] = x := ⟨_, rfl⟩
      obtain ⟨b, off, rfl, _, hcell⟩ := ri_at (ri_below hv.out hbw.out) (by omega)
      have hc := hcell k hlt
      rw [hx] at hc
      have hsn := Nor.feeds_snoc9 l k hlt
      rw [hx] at hsn
      have hkr := Nor.kept_feeds (l.take k)
      have hrt := Nor.feeds_told [] (l.take k)
      rw [List.length_take] at hrt
      obtain ⟨L, hL⟩ : ∃ L, (Nor.feedsI [] (l.take k)).1 = L := ⟨_, rfl⟩
      obtain ⟨T, hT⟩ : ∃ T, (Nor.feedsI [] (l.take k)).2 = T := ⟨_, rfl⟩
      rw [hL] at q hsn hkr
      rw [hT] at q hsn hrt
      have hput := Lib.hid (pfeed_any w.heap.size w.heap.size L T x va vb wr hkr (by omega) q.here)
      replace hsn := Lib.hid hsn
      replace q := Lib.hid q
      clear hcell hL hT hx hrt hkr
      go_wp2_with fail
      refine hput.out.mono ?_
      rintro e w5 ⟨rfl, vc, vd, q5⟩
      have q6 := Lib.hid (q.out.since q5)
      clear q5 hc
      go_wp2_with fail
      go_roundg (l.length - (k + 1))
      case measure => omega
      case rel => exact ⟨k + 1, by omega, by go_num, rfl, vc, vd, by have h6 := q6.out; rw [hsn.out.1, hsn.out.2] at h6; exact h6⟩
    · obtain rfl : k = l.length := by omega
      have hlt' : decide ((l.length : Int) < (l.length : Int)) = false := by simp
      rw [List.take_length] at q
      have hkl := Nor.kept_len (Nor.kept_feeds l)
      have hrt := Nor.feeds_told [] l
      have hall : (Nor.feedsI [] l).2 ++ Nor.endI (Nor.feedsI [] l).1 = M := hM.out
      have hel := end_len (Nor.feedsI [] l).1
      obtain ⟨L, hL⟩ : ∃ L, (Nor.feedsI [] l).1 = L := ⟨_, rfl⟩
      obtain ⟨T, hT⟩ : ∃ T, (Nor.feedsI [] l).2 = T := ⟨_, rfl⟩
      rw [hL] at q hkl hall hel
      rw [hT] at q hrt hall
      obtain ⟨E, hE⟩ : ∃ E, Nor.endI L = E := ⟨_, rfl⟩
      rw [hE] at hall hel
      obtain ⟨pl, cl, rfl⟩ := ri_form (ri_of_own q.kept)
      obtain ⟨pt, ct, rfl⟩ := ri_form (ri_of_own q.told)
      have hend := Lib.hid (end_of9 endC9 hE (by omega) (ri_below (ri_of_own q.kept) (Below.refl wr.heap.size wr).drew))
      have e0 := blk_cell q.box 0 _ rfl
      have e1 := blk_cell q.box 1 _ rfl
      have hbl := Lib.hid (blk_lt q.box)
      have hTl : T.length + E.length ≤ 20000000 := by omega
      have q9 := Lib.hid q
      replace hall := Lib.hid hall
      clear q hE hL hT hkl hrt hel
      go_upto_region 7 with (fail)
      refine wp_region_held_drew (S := fun w' => w'.cell? ⟨w.heap.size, 0, none⟩ = some (.slice pl L.length cl) ∧ w'.cell? ⟨w.heap.size, 1, none⟩ = some (.slice pt T.length ct)) (by kernel_rfl) (⟨e0, e1⟩) (fun hS => ?_)
      refine' wpAnyH_take (i := 0) (oi := ⟨_, _, _, _, _, _⟩) (v := _) rfl (by kernel_rfl) (by kernel_rfl) (by kernel_rfl) (fun _ _ _ h => h) (Or.inl ⟨by rfl, ?hy0⟩) hS ?rest0
      case hy0 => (intro wz hSw; (try dsimp only at hSw); go_simp; try with_reducible rfl)
      try simp only [Act.put, List.setIfInBounds_toArray, List.set_cons_zero, List.set_cons_succ]
      refine' wpAnyH_take (i := 1) (oi := ⟨_, _, _, _, _, _⟩) (v := _) rfl (by kernel_rfl) (by kernel_rfl) (by kernel_rfl) (fun _ _ _ h => h) (Or.inl ⟨by rfl, ?hy1⟩) hS ?rest1
      case hy1 => (intro wz hSw; (try dsimp only at hSw); go_simp; try with_reducible rfl)
      try simp only [Act.put, List.setIfInBounds_toArray, List.set_cons_zero, List.set_cons_succ]
      refine' wpAnyH_take (i := 2) (oi := ⟨_, _, _, _, _, _⟩) (v := _) rfl (by kernel_rfl) (by kernel_rfl) (by kernel_rfl) (fun _ _ _ h => h) (Or.inl ⟨by rfl, ?hy2⟩) hS ?rest2
      case hy2 => (intro wz hSw; (try dsimp only at hSw); go_simp; try with_reducible rfl)
      try simp only [Act.put, List.setIfInBounds_toArray, List.set_cons_zero, List.set_cons_succ]
      refine' wpAnyH_take (i := 3) (oi := ⟨_, _, _, _, _, _⟩) (v := _) rfl (by kernel_rfl) (by kernel_rfl) (by kernel_rfl) (fun _ _ _ h => h) (Or.inl ⟨by rfl, ?hy3⟩) hS ?rest3
      case hy3 => (intro wz hSw; (try dsimp only at hSw); go_simp; try with_reducible rfl)
      try simp only [Act.put, List.setIfInBounds_toArray, List.set_cons_zero, List.set_cons_succ]
      refine wpAnyH_ready (rs := [4]) (by kernel_rfl) (by simp) (AllReadyH.cons rfl (fun K hK => ?_) AllReadyH.nil)
      go_simp
      go_at_call 74
      refine hend.out.mono ?_
      rintro e w2 ⟨v2, rfl, hv2, hb2⟩
      obtain ⟨p2, c2, rfl⟩ := ri_form hv2
      go_wp2_with fail
      refine hK.out _ _ (⟨(hb2.cell (p := ⟨w.heap.size, 0, none⟩) hbl.out).trans hS.1, (hb2.cell (p := ⟨w.heap.size, 1, none⟩) hbl.out).trans hS.2⟩) (fun hSn => ?_)
      clear hS
      have hS := hSn
      clear hSn
      clear hK K
      try simp only [Act.put, List.setIfInBounds_toArray, List.set_cons_zero, List.set_cons_succ]
      have hbd := (Below.refl wr.heap.size wr).drew.trans hb2
      have q8 := Lib.hid (q9.out.go hbd)
      have s8 := Lib.hid (ri_src hv2)
      have h8a : T.length + E.length ≤ maxLen := by unfold maxLen; omega
      have h8b : (T.length + E.length) * 8 ≤ 140737488355328 := by omega
      replace h8a := Lib.hid h8a
      replace h8b := Lib.hid h8b
      refine wpAnyH_ready (rs := [5]) (by kernel_rfl) (by simp) (AllReadyH.cons rfl (fun K hK => ?_) AllReadyH.nil)
      refine step_append_src rfl _ _ 24 rfl w.heap.size 3 i0 (.int .i64 0) 8 Tryz.underlying24 hi hz0 hz1 hz2 rfl _ _ _ rfl q8.out.told _ _ rfl s8.out (oneCellI E) (by rw [List.length_map]; exact h8a.out) (by rw [List.length_map]; exact h8b.out) q8.out.size (fun v5 w5 hown5 hgrow5 => ?_)
      have o5 := Lib.hid (ownI_of_row (l := T ++ E) hown5 (by simp) (by simp))
      have b5 := Lib.hid (hb0.out.trans (below_row q8.out.below hgrow5 q8.out.size q8.out.told (Nat.le_refl _)))
      have k5 := blk_grown q8.out.box hgrow5 (fun e => own_off q8.out.told q8.out.box e.symm)
      rw [hall.out] at o5
      obtain ⟨p5, c5, rfl⟩ := ri_form (ri_of_own o5.out)
      refine hK.out _ _ ⟨blk_cell k5 0 _ rfl, blk_cell k5 1 _ rfl⟩ (fun hSn => ?_)
      clear hS hK hown5 hgrow5 k5
      have hS := hSn
      clear hSn
      refine' wpAnyH_take (i := 6) (oi := ⟨_, _, _, _, _, _⟩) (v := _) rfl (by kernel_rfl) (by kernel_rfl) (by kernel_rfl) (fun _ _ _ h => h) (Or.inl ⟨by rfl, ?hy6⟩) hS ?rest6
      case hy6 => (intro wz hSw; (try dsimp only at hSw); go_simp; try with_reducible rfl)
      try simp only [Act.put, List.setIfInBounds_toArray, List.set_cons_zero, List.set_cons_succ]
      refine wpAnyH_done (by kernel_rfl) ?_ _
      clear hS
      go_simp
      go_wp2_with fail
      go_ret
      exact ⟨_, rfl, ri_of_own o5.out, b5.out⟩
end Go.Proofs.YtiidjkhkcckmkaaGreatDoor

