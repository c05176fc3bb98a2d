/- Texts that stand together. -/
import Derived.Test.YtnlnkjaapdefiaaGreatDoorSgP
import Derived.Test.YtnlnkjaapdefiaaGreatDoorSgRP
import Derived.Deep.RegionHeld3
import Derived.Deep.DeepCutAuto
import Derived.Test.YtnlnkjaapdefiaaGreatDoorBasQ
import Derived.Test.YtnlnkjaapdefiaaGreatDoorBasP
import Derived.Deep.LoopGhost
import Derived.Deep.RegionHeld
import Derived.OrdersHeld
/- Layer 12: the document's All. -/
namespace Go.Proofs.YtnlnkjaapdefiaaGreatDoor
set_option linter.unusedSimpArgs false
set_option linter.unusedVariables false
open Go.RowKit Go.Lib
theorem ownR_set5 {B k : Nat} {v : Value} {ls : List (List Int)} {w : World} (h : OwnR B v ls w) (hk : k < B) (x0 x1 x2 x3 x4 : Value) : OwnR B v ls (set5 w k x0 x1 x2 x3 x4) := by
  obtain ⟨us, h1, hn, h3⟩ := h
  have hne := row_ne h1 hk
  exact ⟨us, row_set (row_set (row_set (row_set (row_set h1 _ _ hne) _ _ hne) _ _ hne) _ _ hne) _ _ hne, hn, fun i u l hu hl => ownI_set5 (h3 i u l hu hl) hk x0 x1 x2 x3 x4⟩
end Go.Proofs.YtnlnkjaapdefiaaGreatDoor

/- Layer 12: the document's All, walked. -/
namespace Go.Proofs.YtnlnkjaapdefiaaGreatDoor
set_option linter.unusedSimpArgs false
set_option linter.unusedVariables false
open Go.RowKit Go.Lib
theorem held6_at {w w1 : World} {a0 a1 a2 a3 a4 a5 : Addr} {u0 u1 u2 u3 u4 u5 : Value} (hb : Below w.heap.size w w1) (h : w.cell? a0 = some u0 ∧ w.cell? a1 = some u1 ∧ w.cell? a2 = some u2 ∧ w.cell? a3 = some u3 ∧ w.cell? a4 = some u4 ∧ w.cell? a5 = some u5) :
    w1.cell? a0 = some u0 ∧ w1.cell? a1 = some u1 ∧ w1.cell? a2 = some u2 ∧ w1.cell? a3 = some u3 ∧ w1.cell? a4 = some u4 ∧ w1.cell? a5 = some u5 := by
  obtain ⟨h0, h1, h2, h3, h4, h5⟩ := h
  exact ⟨by rw [hb.cell (World.block_lt_of_cell? _ _ h0)]; exact h0, by rw [hb.cell (World.block_lt_of_cell? _ _ h1)]; exact h1, by rw [hb.cell (World.block_lt_of_cell? _ _ h2)]; exact h2, by rw [hb.cell (World.block_lt_of_cell? _ _ h3)]; exact h3, by rw [hb.cell (World.block_lt_of_cell? _ _ h4)]; exact h4, by rw [hb.cell (World.block_lt_of_cell? _ _ h5)]; exact h5⟩
theorem held6_drew {w : World} {a0 a1 a2 a3 a4 a5 : Addr} {u0 u1 u2 u3 u4 u5 : Value} (h : w.cell? a0 = some u0 ∧ w.cell? a1 = some u1 ∧ w.cell? a2 = some u2 ∧ w.cell? a3 = some u3 ∧ w.cell? a4 = some u4 ∧ w.cell? a5 = some u5) :
    w.drew.cell? a0 = some u0 ∧ w.drew.cell? a1 = some u1 ∧ w.drew.cell? a2 = some u2 ∧ w.drew.cell? a3 = some u3 ∧ w.drew.cell? a4 = some u4 ∧ w.drew.cell? a5 = some u5 := h
theorem held6_set5 {w : World} {k : Nat} {a0 a1 a2 a3 a4 a5 : Addr} {u0 u1 u2 u3 u4 u5 x0 x1 x2 x3 x4 : Value} (h : w.cell? a0 = some u0 ∧ w.cell? a1 = some u1 ∧ w.cell? a2 = some u2 ∧ w.cell? a3 = some u3 ∧ w.cell? a4 = some u4 ∧ w.cell? a5 = some u5)
    (n0 : k ≠ a0.block) (n1 : k ≠ a1.block) (n2 : k ≠ a2.block) (n3 : k ≠ a3.block) (n4 : k ≠ a4.block) (n5 : k ≠ a5.block) :
    (set5 w k x0 x1 x2 x3 x4).cell? a0 = some u0 ∧ (set5 w k x0 x1 x2 x3 x4).cell? a1 = some u1 ∧ (set5 w k x0 x1 x2 x3 x4).cell? a2 = some u2 ∧ (set5 w k x0 x1 x2 x3 x4).cell? a3 = some u3 ∧ (set5 w k x0 x1 x2 x3 x4).cell? a4 = some u4 ∧ (set5 w k x0 x1 x2 x3 x4).cell? a5 = some u5 := by
  rw [cell_set5 n0, cell_set5 n1, cell_set5 n2, cell_set5 n3, cell_set5 n4, cell_set5 n5]
  exact h
/-- behind a value that was fed: the new state in a box of its own, what it told -/
def Mid12 (wq : World) (v : Value) (c : List Int) (q : (List Int × Clu.CS) × List Int) (u t : Value) (wx : World) : Prop :=
  ∃ (bt : Nat) (va : Value), u = .pointer (some ⟨bt, 0, none⟩) ∧ wq.heap.size ≤ bt ∧ Blk wx bt #[va, .bool q.1.2.on, .int .i64 q.1.2.kind, .bool q.1.2.pict, .bool q.1.2.odd] 84 ∧ OwnI wq.heap.size va q.1.1 wx ∧ ((t = v ∧ q.2 = c) ∨ (t = .slice none 0 0 ∧ q.2 = [])) ∧ Below wq.heap.size wq wx
theorem mid12_first {wq w2 : World} {v : Value} {c : List Int} {q : (List Int × Clu.CS) × List Int} {va t : Value} {o : Obj} {y0 y1 y2 y3 y4 : Value} (ho : o = .cells #[y0, y1, y2, y3, y4] 84)
    (ha : OwnI (wq.alloc o).drew.heap.size va q.1.1 w2) (ht : (t = v ∧ q.2 = c) ∨ (t = .slice none 0 0 ∧ q.2 = [])) (hb2 : Below (wq.alloc o).drew.heap.size (wq.alloc o).drew w2) :
    Mid12 wq v c q (.pointer (some ⟨wq.heap.size, 0, none⟩)) t (set5 w2 wq.heap.size va (.bool q.1.2.on) (.int .i64 q.1.2.kind) (.bool q.1.2.pict) (.bool q.1.2.odd)) := by
  subst ho
  have hA : Below wq.heap.size wq (wq.alloc (.cells #[y0, y1, y2, y3, y4] 84)).drew := ((Below.refl _ _).alloc (Nat.le_refl _) _).drew
  have hlt : wq.heap.size < (wq.alloc (.cells #[y0, y1, y2, y3, y4] 84)).drew.heap.size := by simp
  have hblk : Blk w2 wq.heap.size #[y0, y1, y2, y3, y4] 84 := blk_below (w := (wq.alloc (.cells #[y0, y1, y2, y3, y4] 84)).drew) (blk_new wq _ _) hb2
  exact ⟨wq.heap.size, va, rfl, Nat.le_refl _, blk_set5 hblk _ _ _ _ _, ownI_mono (ownI_set5 ha hlt _ _ _ _ _) (Nat.le_of_lt hlt), ht, below_set5 (hA.trans (hb2.mono hA.size)) (Nat.le_refl _) _ _ _ _ _⟩
theorem mid12_last {wq w2 : World} {v : Value} {c : List Int} {q : (List Int × Clu.CS) × List Int} {va t : Value} (ha : OwnI wq.drew.heap.size va q.1.1 w2) (ht : (t = v ∧ q.2 = c) ∨ (t = .slice none 0 0 ∧ q.2 = [])) (hb2 : Below wq.drew.heap.size wq.drew w2) :
    Mid12 wq v c q (.pointer (some ⟨w2.heap.size, 0, none⟩)) t (w2.alloc (.cells #[va, .bool q.1.2.on, .int .i64 q.1.2.kind, .bool q.1.2.pict, .bool q.1.2.odd] 84)) := by
  have hA : Below wq.heap.size wq w2 := (Below.refl _ _).drew.trans hb2
  exact ⟨w2.heap.size, va, rfl, hA.size, blk_new w2 _ _, ownI_alloc ha _, ht, hA.alloc hA.size _⟩
theorem srcR_one (w : World) (v : Value) : Src (w.alloc (.cells #[v] 25)) (.slice (some ⟨w.heap.size, 0, none⟩) 1 1) [v] := by
  refine .inr ⟨_, 1, rfl, fun j u hu => ?_⟩
  cases j with
  | zero =>
    simp at hu
    subst hu
    exact blk_cell (blk_new w _ _) 0 _ rfl
  | succ j => simp at hu
theorem oneCellR {p : Option Addr} {n c : Nat} : ∀ (x : Value), x = .slice p n c → ∀ u ∈ [x], u.oneCell' = true := by
  rintro x rfl u hu
  rw [List.mem_singleton] at hu
  subst hu
  rfl
theorem told_cases {t : Value} {ps : Option Addr} {cs : Nat} {c q2 : List Int} (ht : (t = .slice ps c.length cs ∧ q2 = c) ∨ (t = .slice none 0 0 ∧ q2 = [])) : (∃ cn pn, t = .slice pn 0 cn ∧ q2 = []) ∨ (0 < c.length ∧ q2 = c ∧ t = .slice ps c.length cs) := by
  rcases ht with ⟨rfl, rfl⟩ | ⟨rfl, rfl⟩
  · by_cases h0 : q2.length = 0
    · exact .inl ⟨cs, ps, by rw [h0], List.eq_nil_of_length_eq_zero h0⟩
    · exact .inr ⟨by omega, rfl, rfl⟩
  · exact .inl ⟨0, none, rfl, rfl⟩
/-- what the loop holds -/
structure Open12 (w : World) (l : List Int) (k : Nat) (vo : Value) (wr : World) (ls : List (List Int)) (c : List Int) (s : Clu.CS) (vs : Value) : Prop where
  box : Blk wr w.heap.size #[vs, .bool s.on, .int .i64 s.kind, .bool s.pict, .bool s.odd] 84
  own : OwnI (w.heap.size + 1) vs c wr
  row : OwnR (w.heap.size + 1) vo ls wr
  sane : Sgm.saneB c s = true
  all : ls ++ Sgm.segs c s (l.drop k) = Sgm.allI l
  few : ls.length ≤ k
  below : Below w.heap.size w wr
set_option maxHeartbeats 1600000 in
set_option maxRecDepth 100000 in
theorem rall12_any (v : Value) (l : List Int) (w : World) (hl : l.length ≤ 1000000) (hv : RI w v l) : Calls Tryz.prog 35 #[v] w (ToldR (Sgm.allI l) w) := by
  obtain ⟨i0, hi, hz0, hz1, hz2⟩ := info_parts info_r
  obtain ⟨p, cap, rfl⟩ := ri_form hv
  replace hv := Lib.hid hv
  obtain ⟨A, hA⟩ : ∃ A, Sgm.allI l = A := ⟨_, rfl⟩
  rw [hA]
  replace hA := Lib.hid hA
  go_enter Tryz.func35, Tryz.ntmps35
  go_wp2_with fail
  go_loopg [3, 5] l.length (fun g vo vi wr => ∃ (k : Nat) (ls : List (List Int)) (c : List Int) (s : Clu.CS) (vs : Value), k ≤ l.length ∧ vi = .int .i64 k ∧ g = l.length - k ∧ Open12 w l k vo wr ls c s vs)
  case atStart => exact ⟨0, [], [], Clu.zero, .slice none 0 0, Nat.zero_le _, rfl, rfl, ⟨blk_new _ _ _, ownI_nil _ _, ownR_nil _ _, by decide, rfl, Nat.le_refl _, below_new _ _⟩⟩
  case round =>
    obtain ⟨k, ls, c, s, vs, hk, rfl, rfl, ⟨hbox, hown, hrow, hsan, hall, hfew, hbel⟩⟩ := hrel
    have hcl : c.length ≤ 32 := by
      unfold Sgm.saneB at hsan
      simp only [Bool.and_eq_true, decide_eq_true_eq] at hsan
      exact hsan.1.1
    obtain ⟨ps, cs, rfl⟩ := ri_form (ri_of_own hown)
    by_cases hlt : k < l.length
    · have hlt' : (k : Int) < (l.length : Int) := by omega
      obtain ⟨b, off, rfl, hb, hcell⟩ := ri_at hv.out (by omega)
      have hc : wr.cell? ⟨b, off + k, none⟩ = some (.int .i64 l[k]) := (hbel.cell hb).trans (hcell k hlt)
      obtain ⟨x, hx⟩ : ∃ x, l[k] = x := ⟨_, rfl⟩
      rw [List.drop_eq_getElem_cons hlt, Sgm.segs_fed hsan] at hall
      have hfs := Sgm.feed_sane c s l[k]
      rw [hx] at hc hall hfs
      have hfeed := fun (W : World) (hv' : RI W (.slice ps c.length cs) c) => rfeed12_own (.slice ps c.length cs) c s x W (by omega) hv'
      obtain ⟨q, hq⟩ : ∃ q, Sgm.feedI c s x = q := ⟨_, rfl⟩
      rw [hq] at hall hfs hfeed
      have hkA : w.heap.size < wr.heap.size := blk_lt hbox
      have hkB : b < wr.heap.size := Nat.lt_of_lt_of_le hb hbel.size
      obtain ⟨⟨q1, N⟩, q2⟩ := q
      obtain ⟨on, kd, pi, od⟩ := s
      obtain ⟨xa, xb, xc, xd⟩ := N
      unfold sgV at hfeed
      dsimp only at hfeed hall hfs hbox
      have H6 := Lib.hid (show wr.cell? ⟨w.heap.size, 0, none⟩ = some (.slice ps c.length cs) ∧ wr.cell? ⟨w.heap.size, 1, none⟩ = some (.bool on) ∧ wr.cell? ⟨w.heap.size, 2, none⟩ = some (.int .i64 kd) ∧ wr.cell? ⟨w.heap.size, 3, none⟩ = some (.bool pi) ∧ wr.cell? ⟨w.heap.size, 4, none⟩ = some (.bool od) ∧ wr.cell? ⟨b, off + k, none⟩ = some (.int .i64 x) from
        ⟨blk_cell hbox 0 _ rfl, blk_cell hbox 1 _ rfl, blk_cell hbox 2 _ rfl, blk_cell hbox 3 _ rfl, blk_cell hbox 4 _ rfl, hc⟩)
      replace hfeed := Lib.hid hfeed
      replace hown := Lib.hid hown
      replace hrow := Lib.hid hrow
      replace hbel := Lib.hid hbel
      replace hbox := Lib.hid hbox
      replace hall := Lib.hid hall
      replace hfs := Lib.hid hfs
      replace hsan := Lib.hid hsan
      clear hcell hx hq hc
      go_upto_region 6 with (fail)
      generalize hwq : wr = wq at *
      go_cut [6, 7] (fun u t wx => Mid12 wq (.slice ps c.length cs) c ((q1, ⟨xa, xb, xc, xd⟩), q2) u t wx)
      case first =>
        go_region_held3 (fun w' => w'.cell? ⟨w.heap.size, 0, none⟩ = some (.slice ps c.length cs) ∧ w'.cell? ⟨w.heap.size, 1, none⟩ = some (.bool on) ∧ w'.cell? ⟨w.heap.size, 2, none⟩ = some (.int .i64 kd) ∧ w'.cell? ⟨w.heap.size, 3, none⟩ = some (.bool pi) ∧ w'.cell? ⟨w.heap.size, 4, none⟩ = some (.bool od) ∧ w'.cell? ⟨b, off + k, none⟩ = some (.int .i64 x))
          (with_reducible first | exact H6.out | exact held6_drew H6.out | exact held6_at hb2 (held6_drew H6.out) | exact held6_at (below_new w2 _) (held6_at hb2 (held6_drew H6.out)) | exact held6_drew (held6_at (below_new w2 _) (held6_at hb2 (held6_drew H6.out))) | exact held6_drew (held6_at (below_new wq _) H6.out) | exact held6_at (below_new wq _) H6.out | exact held6_at hb2 (held6_drew (held6_at (below_new wq _) H6.out)) | exact held6_drew (held6_at hb2 (held6_drew (held6_at (below_new wq _) H6.out))) | exact held6_set5 (held6_at hb2 (held6_drew (held6_at (below_new wq _) H6.out))) (by simp; omega) (by simp; omega) (by simp; omega) (by simp; omega) (by simp; omega) (by simp; omega) | exact held6_drew (held6_set5 (held6_at hb2 (held6_drew (held6_at (below_new wq _) H6.out))) (by simp; omega) (by simp; omega) (by simp; omega) (by simp; omega) (by simp; omega) (by simp; omega)))
          (first | (go_at_call 64; refine (hfeed.out _ (by first | exact ri_of_own hown.out | exact ri_drew (ri_below (ri_of_own hown.out) (below_new wq _)))).mono ?_; rintro e w2 ⟨va, vb, he, ha, ht, hb2⟩; unfold sgV at he; dsimp only at he ha ht; subst he; obtain ⟨pa, ca, rfl⟩ := ri_form (ri_of_own ha); replace ha := Lib.hid ha; replace ht := Lib.hid ht; try (have h5 := blk_below (w := (wq.alloc (Obj.cells #[Value.slice none 0 0, .bool false, .int .i64 0, .bool false, .bool false] 84)).drew) (blk_new wq #[Value.slice none 0 0, .bool false, .int .i64 0, .bool false, .bool false] 84) hb2; have h50 := blk_cell h5 0 _ rfl; have h51 := blk_cell h5 1 _ rfl; have h52 := blk_cell h5 2 _ rfl; have h53 := blk_cell h5 3 _ rfl; have h54 := blk_cell h5 4 _ rfl; have f50 := blk_thaw h5 0; have f51 := blk_thaw h5 1; have f52 := blk_thaw h5 2; have f53 := blk_thaw h5 3; have f54 := blk_thaw h5 4; replace h5 := Lib.hid h5)))
        all_goals go_wp2_with fail
        all_goals go_meet
        · exact mid12_last ha.out ht.out hb2
        · exact mid12_first rfl ha.out ht.out hb2
      case rest =>
        obtain ⟨bt, va, rfl, hbt, hbxt, ha, ht, hbc⟩ := hcut
        obtain ⟨pa, ca, rfl⟩ := ri_form (ri_of_own ha)
        dsimp only at hbxt ha ht
        have hboxc := blk_below hbox.out hbc
        have kt0 := blk_cell hbxt 0 _ rfl
        have kt1 := blk_cell hbxt 1 _ rfl
        have kt2 := blk_cell hbxt 2 _ rfl
        have kt3 := blk_cell hbxt 3 _ rfl
        have kt4 := blk_cell hbxt 4 _ rfl
        have ks0 := blk_cell hboxc 0 _ rfl
        have ks1 := blk_cell hboxc 1 _ rfl
        have ks2 := blk_cell hboxc 2 _ rfl
        have ks3 := blk_cell hboxc 3 _ rfl
        have ks4 := blk_cell hboxc 4 _ rfl
        have fs0 := blk_thaw hboxc 0
        have fs1 := blk_thaw hboxc 1
        have fs2 := blk_thaw hboxc 2
        have fs3 := blk_thaw hboxc 3
        have fs4 := blk_thaw hboxc 4
        have hnew := Lib.hid (blk_set5 hboxc (.slice pa q1.length ca) (.bool xa) (.int .i64 xb) (.bool xc) (.bool xd))
        have ha' := Lib.hid (ownI_set5 (ownI_mono ha (show w.heap.size + 1 ≤ wq.heap.size by omega)) (Nat.lt_succ_self _) (.slice pa q1.length ca) (.bool xa) (.int .i64 xb) (.bool xc) (.bool xd))
        have hc' := Lib.hid (ownI_set5 (ownI_below hown.out hbc) (Nat.lt_succ_self _) (.slice pa q1.length ca) (.bool xa) (.int .i64 xb) (.bool xc) (.bool xd))
        have hrow' := Lib.hid (ownR_set5 (ownR_below hrow.out hbc) (Nat.lt_succ_self _) (.slice pa q1.length ca) (.bool xa) (.int .i64 xb) (.bool xc) (.bool xd))
        have hbel' := Lib.hid (below_set5 (hbel.out.trans (hbc.mono hbel.out.size)) (Nat.le_refl _) (.slice pa q1.length ca) (.bool xa) (.int .i64 xb) (.bool xc) (.bool xd))
        have hsz := Lib.hid (show w.heap.size + 1 ≤ wc.heap.size from Nat.le_trans hkA hbc.size)
        replace hbxt := Lib.hid hbxt
        replace ha := Lib.hid ha
        replace hbc := Lib.hid hbc
        rcases told_cases ht with ⟨cn, pn, rfl, hq2⟩ | ⟨hcn, hq2, rfl⟩
        · replace hq2 := Lib.hid hq2
          clear hboxc H6 hfeed hbel hbox hwq
          go_wp2_with fail
          go_roundg (l.length - (k + 1))
          case measure => omega
          case rel => exact ⟨k + 1, ls, q1, ⟨xa, xb, xc, xd⟩, .slice pa q1.length ca, by omega, by go_num, rfl, ⟨hnew.out, ha'.out, hrow'.out, hfs.out, by have h := hall.out; rw [if_pos hq2.out] at h; exact h, by omega, hbel'.out⟩⟩
        · have hcn2 : decide (0 < c.length) = true := decide_eq_true hcn
          replace hq2 := Lib.hid hq2
          clear hboxc H6 hfeed hbel hbox hwq hrow hown
          have hsz5 := Lib.hid (show w.heap.size + 1 ≤ (set5 wc w.heap.size (.slice pa q1.length ca) (.bool xa) (.int .i64 xb) (.bool xc) (.bool xd)).heap.size by have := hsz.out; unfold set5; simp; omega)
          obtain ⟨W5, hW5⟩ : ∃ W5, set5 wc w.heap.size (.slice pa q1.length ca) (.bool xa) (.int .i64 xb) (.bool xc) (.bool xd) = W5 := ⟨_, rfl⟩
          rw [hW5] at hnew ha' hc' hrow' hbel' hsz5
          unfold set5 at hW5
          go_upto_region 8 with (fail)
          try rw [hW5]
          clear hW5 ht kt0 kt1 kt2 kt3 kt4 ks0 ks1 ks2 ks3 ks4 fs0 fs1 fs2 fs3 fs4
          obtain ⟨us, hr, hn, h3⟩ := ownR_alloc hrow'.out (.cells #[.slice ps c.length cs] 25)
          have hr2 := Lib.hid hr
          have hb9 := Lib.hid (hbel'.out.alloc hbel'.out.size (.cells #[.slice ps c.length cs] 25))
          have hx9 := Lib.hid (blk_alloc hnew.out (.cells #[.slice ps c.length cs] 25))
          have ha9 := Lib.hid (ownI_alloc ha'.out (.cells #[.slice ps c.length cs] 25))
          have hc9 := Lib.hid (ownI_alloc hc'.out (.cells #[.slice ps c.length cs] 25))
          have hs9 := Lib.hid (srcR_one W5 (.slice ps c.length cs))
          have hnot := Lib.hid (row_not hr (Nat.lt_succ_self w.heap.size))
          have hz9 := Lib.hid (show w.heap.size + 1 ≤ (W5.alloc (.cells #[.slice ps c.length cs] 25)).heap.size by have := hsz5.out; simp; omega)
          have h3' := Lib.hid h3
          have hn' := Lib.hid hn
          have hlen1 := Lib.hid (show ls.length + 1 ≤ maxLen by unfold maxLen; omega)
          have hlen2 := Lib.hid (show (ls.length + 1) * 24 ≤ 140737488355328 by omega)
          clear hr h3 hn
          go_wp2_with (at_builtin; (refine wpList_append_src rfl _ _ 28 rfl (w.heap.size + 1) 25 i0 (.slice none 0 0) 24 Tryz.underlying28 hi hz0 hz1 hz2 rfl _ _ _ rfl hr2.out _ _ rfl hs9.out (oneCellR _ rfl) hlen1.out hlen2.out hz9.out ?_); intro v5 w5 hown5 hgrow5; have o5 := Lib.hid (ownR_more hr2.out hn'.out h3'.out hc9.out hown5 hgrow5); have b5 := Lib.hid (below_row hb9.out hgrow5 hb9.out.size hr2.out (by omega)); have x5 := Lib.hid (blk_grown hx9.out hgrow5 hnot.out); have a5 := Lib.hid (World.ownsRow.kept ha9.out hgrow5 (own_offR ha9.out hr2.out)); clear hown5 hgrow5)
          go_roundg (l.length - (k + 1))
          case measure => omega
          case rel => exact ⟨k + 1, ls ++ [c], q1, ⟨xa, xb, xc, xd⟩, .slice pa q1.length ca, by omega, by go_num, rfl, ⟨x5.out, a5.out, o5.out, hfs.out, by have h := hall.out; rw [hq2.out, if_neg (fun e => by rw [e] at hcn; simp at hcn)] at h; rw [← h]; simp, by simp; omega, b5.out⟩⟩
    · obtain rfl : k = l.length := by omega
      have hlt' : decide ((l.length : Int) < (l.length : Int)) = false := by simp
      rw [List.drop_length] at hall
      have hend := rend12_any (.slice ps c.length cs) c s wr (by omega) (ri_of_own hown)
      rw [if_pos hsan] at hend
      have hA' : ls ++ (if c = [] then [] else [c]) = A := by rw [← hA.out, ← hall]; rfl
      obtain ⟨on, kd, pi, od⟩ := s
      unfold sgV at hend
      dsimp only at hend hbox
      have b0 := blk_cell hbox 0 _ rfl
      have b1 := blk_cell hbox 1 _ rfl
      have b2 := blk_cell hbox 2 _ rfl
      have b3 := blk_cell hbox 3 _ rfl
      have b4 := blk_cell hbox 4 _ rfl
      have hkA : w.heap.size < wr.heap.size := blk_lt hbox
      replace hA' := Lib.hid hA'
      replace hend := Lib.hid hend
      replace hown := Lib.hid hown
      replace hrow := Lib.hid hrow
      replace hbox := Lib.hid hbox
      replace hbel := Lib.hid hbel
      clear hall hsan
      by_cases hc0 : c.length = 0
      · have hcn2 : decide (0 < c.length) = false := decide_eq_false (by omega)
        have hce := Lib.hid (List.eq_nil_of_length_eq_zero hc0)
        replace hc0 : ¬ 0 < c.length := by omega
        go_wp2_with fail
        refine hend.out.mono ?_
        rintro e w2 ⟨rfl, hb2⟩
        have r2 := Lib.hid (ownR_below hrow.out hb2)
        replace hb2 := Lib.hid (below_on hbel.out hb2)
        clear b0 b1 b2 b3 b4
        go_wp2_with fail
        go_ret
        exact ⟨_, rfl, by rw [← hA'.out, if_pos hce.out, List.append_nil]; exact rr_of_ownR r2.out, hb2.out⟩
      · have hcn : 0 < c.length := by omega
        have hcn2 : decide (0 < c.length) = true := decide_eq_true hcn
        clear hc0
        go_wp2_with fail
        refine hend.out.mono ?_
        rintro e w2 ⟨rfl, hb2⟩
        obtain ⟨us, hr, hn, h3⟩ := ownR_alloc (ownR_below hrow.out hb2) (.cells #[.slice ps c.length cs] 25)
        have hr2 := Lib.hid hr
        have hb9 := Lib.hid ((below_on hbel.out hb2).alloc (below_on hbel.out hb2).size (.cells #[.slice ps c.length cs] 25))
        have hc9 := Lib.hid (ownI_alloc (ownI_below hown.out hb2) (.cells #[.slice ps c.length cs] 25))
        have hs9 := Lib.hid (srcR_one w2 (.slice ps c.length cs))
        have hz9 := Lib.hid (show w.heap.size + 1 ≤ (w2.alloc (.cells #[.slice ps c.length cs] 25)).heap.size by have := hb2.size; simp; omega)
        have h3' := Lib.hid h3
        have hn' := Lib.hid hn
        have hlen1 := Lib.hid (show ls.length + 1 ≤ maxLen by unfold maxLen; omega)
        have hlen2 := Lib.hid (show (ls.length + 1) * 24 ≤ 140737488355328 by omega)
        clear hr h3 hn b0 b1 b2 b3 b4 hb2
        go_wp2_with (at_builtin; (refine wpList_append_src rfl _ _ 28 rfl (w.heap.size + 1) 25 i0 (.slice none 0 0) 24 Tryz.underlying28 hi hz0 hz1 hz2 rfl _ _ _ rfl hr2.out _ _ rfl hs9.out (oneCellR _ rfl) hlen1.out hlen2.out hz9.out ?_); intro v5 w5 hown5 hgrow5; have o5 := Lib.hid (ownR_more hr2.out hn'.out h3'.out hc9.out hown5 hgrow5); have b5 := Lib.hid (below_row hb9.out hgrow5 hb9.out.size hr2.out (by omega)); clear hown5 hgrow5)
        go_ret
        exact ⟨_, rfl, by rw [← hA'.out, if_neg (fun e => by rw [e] at hcn; simp at hcn)]; exact rr_of_ownR o5.out, b5.out⟩
end Go.Proofs.YtnlnkjaapdefiaaGreatDoor

/- Layer 12: the document's Same, of lists of lists that are the same. -/
namespace Go.Proofs.YtnlnkjaapdefiaaGreatDoor
set_option linter.unusedSimpArgs false
set_option linter.unusedVariables false
open Go.RowKit Go.Lib
theorem heldR2 {w w1 : World} {a0 a1 : Addr} {u0 u1 : Value} (hb : Below w.heap.size w w1) (h : w.cell? a0 = some u0 ∧ w.cell? a1 = some u1) : w1.cell? a0 = some u0 ∧ w1.cell? a1 = some u1 :=
  ⟨by rw [hb.cell (World.block_lt_of_cell? _ _ h.1)]; exact h.1, by rw [hb.cell (World.block_lt_of_cell? _ _ h.2)]; exact h.2⟩
theorem ri_drewR {w : World} {v : Value} {l : List Int} (h : RI w v l) : RI w.drew v l := h
set_option maxHeartbeats 3200000 in
set_option maxRecDepth 100000 in
theorem same_selfR (v1 v2 : Value) (ls : List (List Int)) (w : World) (hn : ls.length ≤ 100000) (hl : ∀ x ∈ ls, x.length ≤ 100000) (h1 : RR w v1 ls) (h2 : RR w v2 ls) :
    Calls Tryz.prog 12 #[v1, v2] w fun e w' => e = .returned (.bool true) ∧ Below w.heap.size w w' := by
  obtain ⟨p1, c1, rfl⟩ := rr_form h1
  obtain ⟨p2, c2, rfl⟩ := rr_form h2
  replace h1 := Lib.hid h1
  replace h2 := Lib.hid h2
  replace hl := Lib.hid hl
  have hll : ((ls.length : Int) != (ls.length : Int)) = false := by simp
  go_enter Tryz.func12, Tryz.ntmps12
  go_wp2_with fail
  go_loopg [5] ls.length (fun g vi wr => ∃ j : Nat, j ≤ ls.length ∧ vi = .int .i64 j ∧ g = ls.length - j ∧ Below w.heap.size w wr)
  case atStart => exact ⟨0, Nat.zero_le _, rfl, rfl, Below.refl _ _⟩
  case round =>
    obtain ⟨j, hj, rfl, rfl, hbel⟩ := hrel
    by_cases hlt : j < ls.length
    · have hlt' : (j : Int) < (ls.length : Int) := by omega
      obtain ⟨b1, o1, rfl, hb1, hc1⟩ := rr_at h1.out (by omega)
      obtain ⟨b2, o2, rfl, hb2, hc2⟩ := rr_at h2.out (by omega)
      obtain ⟨u1, k1, r1⟩ := hc1 j hlt
      obtain ⟨u2, k2, r2⟩ := hc2 j hlt
      have hxl := hl.out ls[j] (List.getElem_mem hlt)
      obtain ⟨x, hx⟩ : ∃ x, ls[j] = x := ⟨_, rfl⟩
      rw [hx] at r1 r2 hxl
      have H2 := Lib.hid (And.intro ((hbel.cell (p := ⟨b1, o1 + j, none⟩) hb1).trans k1) ((hbel.cell (p := ⟨b2, o2 + j, none⟩) hb2).trans k2))
      have hs := Lib.hid (fun W (h : Below w.heap.size w W) => same_self u1 u2 x W.drew hxl (ri_drewR (ri_below r1 h)) (ri_drewR (ri_below r2 h)))
      replace hbel := Lib.hid hbel
      clear hc1 hc2 k1 k2 r1 r2 hx hxl
      go_upto_region 6 with (fail)
      refine wp_region_held_drew (S := fun w' => w'.cell? ⟨b1, o1 + j, none⟩ = some u1 ∧ w'.cell? ⟨b2, o2 + j, none⟩ = some u2) (by kernel_rfl) (H2.out) (fun hS => ?_)
      refine' wpAnyH_take (i := 0) (oi := ⟨_, _, _, _, _, _⟩) (v := _) rfl (by kernel_rfl) (by kernel_rfl) (by kernel_rfl) (fun _ _ _ h => h) (Or.inl ⟨by rfl, ?hy0⟩) hS ?rest0
      case hy0 => (intro wz hSw; (try dsimp only at hSw); go_simp; try with_reducible rfl)
      try simp only [Act.put, List.setIfInBounds_toArray, List.set_cons_zero, List.set_cons_succ]
      refine' wpAnyH_take (i := 1) (oi := ⟨_, _, _, _, _, _⟩) (v := _) rfl (by kernel_rfl) (by kernel_rfl) (by kernel_rfl) (fun _ _ _ h => h) (Or.inl ⟨by rfl, ?hy1⟩) hS ?rest1
      case hy1 => (intro wz hSw; (try dsimp only at hSw); go_simp; try with_reducible rfl)
      try simp only [Act.put, List.setIfInBounds_toArray, List.set_cons_zero, List.set_cons_succ]
      refine' wpAnyH_take (i := 2) (oi := ⟨_, _, _, _, _, _⟩) (v := _) rfl (by kernel_rfl) (by kernel_rfl) (by kernel_rfl) (fun _ _ _ h => h) (Or.inl ⟨by rfl, ?hy2⟩) hS ?rest2
      case hy2 => (intro wz hSw; (try dsimp only at hSw); go_simp; try with_reducible rfl)
      try simp only [Act.put, List.setIfInBounds_toArray, List.set_cons_zero, List.set_cons_succ]
      refine' wpAnyH_take (i := 3) (oi := ⟨_, _, _, _, _, _⟩) (v := _) rfl (by kernel_rfl) (by kernel_rfl) (by kernel_rfl) (fun _ _ _ h => h) (Or.inl ⟨by rfl, ?hy3⟩) hS ?rest3
      case hy3 => (intro wz hSw; (try dsimp only at hSw); go_simp; try with_reducible rfl)
      try simp only [Act.put, List.setIfInBounds_toArray, List.set_cons_zero, List.set_cons_succ]
      refine' wpAnyH_take (i := 4) (oi := ⟨_, _, _, _, _, _⟩) (v := _) rfl (by kernel_rfl) (by kernel_rfl) (by kernel_rfl) (fun _ _ _ h => h) (Or.inl ⟨by rfl, ?hy4⟩) hS ?rest4
      case hy4 => (intro wz hSw; (try dsimp only at hSw); go_simp; try with_reducible rfl)
      try simp only [Act.put, List.setIfInBounds_toArray, List.set_cons_zero, List.set_cons_succ]
      refine' wpAnyH_take (i := 5) (oi := ⟨_, _, _, _, _, _⟩) (v := _) rfl (by kernel_rfl) (by kernel_rfl) (by kernel_rfl) (fun _ _ _ h => h) (Or.inl ⟨by rfl, ?hy5⟩) hS ?rest5
      case hy5 => (intro wz hSw; (try dsimp only at hSw); go_simp; try with_reducible rfl)
      try simp only [Act.put, List.setIfInBounds_toArray, List.set_cons_zero, List.set_cons_succ]
      refine' wpAnyH_take (i := 6) (oi := ⟨_, _, _, _, _, _⟩) (v := _) rfl (by kernel_rfl) (by kernel_rfl) (by kernel_rfl) (fun _ _ _ h => h) (Or.inl ⟨by rfl, ?hy6⟩) hS ?rest6
      case hy6 => (intro wz hSw; (try dsimp only at hSw); go_simp; try with_reducible rfl)
      try simp only [Act.put, List.setIfInBounds_toArray, List.set_cons_zero, List.set_cons_succ]
      refine' wpAnyH_take (i := 7) (oi := ⟨_, _, _, _, _, _⟩) (v := _) rfl (by kernel_rfl) (by kernel_rfl) (by kernel_rfl) (fun _ _ _ h => h) (Or.inl ⟨by rfl, ?hy7⟩) hS ?rest7
      case hy7 => (intro wz hSw; (try dsimp only at hSw); go_simp; try with_reducible rfl)
      try simp only [Act.put, List.setIfInBounds_toArray, List.set_cons_zero, List.set_cons_succ]
      refine wpAnyH_ready (rs := [8]) (by kernel_rfl) (by simp) (AllReadyH.cons rfl (fun K hK => ?_) AllReadyH.nil)
      go_simp
      go_at_call 9
      refine (hs.out _ hbel.out).mono ?_
      rintro e w_8 ⟨rfl, q_8⟩
      go_wp2_with fail
      refine hK.out _ _ (heldR2 q_8 hS) (fun hSn => ?_)
      clear hS
      have hS := hSn
      clear hSn
      clear hK K
      try simp only [Act.put, List.setIfInBounds_toArray, List.set_cons_zero, List.set_cons_succ]
      refine' wpAnyH_take (i := 9) (oi := ⟨_, _, _, _, _, _⟩) (v := _) rfl (by kernel_rfl) (by kernel_rfl) (by kernel_rfl) (fun _ _ _ h => h) (Or.inl ⟨by rfl, ?hy9⟩) hS ?rest9
      case hy9 => (intro wz hSw; (try dsimp only at hSw); go_simp; try with_reducible rfl)
      try simp only [Act.put, List.setIfInBounds_toArray, List.set_cons_zero, List.set_cons_succ]
      refine wpAnyH_done (by kernel_rfl) ?_ _
      have bq := Lib.hid (below_on hbel.out.drew q_8)
      clear hS q_8
      go_simp
      go_wp2_with fail
      go_roundg (ls.length - (j + 1))
      case measure => omega
      case rel => exact ⟨j + 1, by omega, by go_num, rfl, bq.out⟩
    · obtain rfl : j = ls.length := by omega
      have hlt' : decide ((ls.length : Int) < (ls.length : Int)) = false := by simp
      replace hbel := Lib.hid hbel
      go_wp2_with fail
      go_ret
      exact ⟨rfl, hbel.out⟩
end Go.Proofs.YtnlnkjaapdefiaaGreatDoor

