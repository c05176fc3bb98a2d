/- Layer 12: the iterator over clusters. -/
import Derived.Test.YtconccgfhdmafaaSgA5
import Derived.RangeFuncNested
import Derived.RangeFuncBound
import Derived.RangeFuncCalls
import Derived.RangeFuncLeaves
import Derived.Shelf.Abstract
import Derived.Shelf.RegionOpen
import Derived.WalkKit
import Derived.OwnWalkIn
import Derived.TacticsInMore
import Derived.LoopNIn
import Derived.LoopIn
import Derived.Sort.CutIn
namespace Go.Proofs.Ytconccgfhdmafaa
set_option linter.unusedSimpArgs false
set_option linter.unusedVariables false
open Go Go.RowKit Go.Lib Go.Shelf
attribute [local go_sem] Oper.semAt_some

theorem feed_step {c : List Int} {s : Clu.CS} (h : Sgm.saneB c s = true) (r : Int) : Sgm.feedI c s r = Sgm.stepI c s r := by
  unfold Sgm.feedI
  rw [if_pos h]

/-- what a round promises the iterator -/
def Yld12 (n : Nat) (B : Nat) (w : World) (ba l D : Nat) (r : Loop) (N : Nat) : Prop :=
  ∀ (ls : List (List Int)) (m : List Int) (vb vs : Value) (c : List Int) (W : World), Rows12 B w ba ls vs c W → OwnI B vb m W → (vb.ownBlock = none ∨ vb.ownBlock ≠ vs.ownBlock) → K12 l D r W → ls.length < N →
    YieldAt Fence.wide n Try.prog l #[vb] W fun e W' => e = .returned (.bool true) ∧ Rows12 B w ba (ls ++ [m]) vs c W' ∧ K12 l D r W' ∧ W.heap.size ≤ W'.heap.size ∧ ∀ (j : Nat) (cs : Array Value), Blk W j cs 71 → Blk W' j cs 71

set_option maxHeartbeats 6400000 in
set_option maxRecDepth 100000 in
theorem clusters1_in (n : Nat) (hn : 1 ≤ n) (B : Nat) (w W : World) (ba bl l D : Nat) (r : Loop) (p : Option Addr) (cap : Nat) (L : List Int) (hL : L.length ≤ 100000) (hB : w.heap.size ≤ B) (hBW : B ≤ W.heap.size)
    (hbl : Blk W bl #[.slice p L.length cap] 22) (hv : RI w (.slice p L.length cap) L) (hk : K12 l D r W) (hrows : Rows12 B w ba [] (.slice none 0 0) [] W)
    (hY : Yld12 (n - 1) B w ba l D r (L.length + 1)) :
    CallsIn Fence.wide n Try.prog 43 #[.func (.yield l) #[] #[], .pointer (some ⟨bl, 0, none⟩)] W fun e W' => (∃ v, e = .returned v) ∧ ∃ vs c, Rows12 B w ba (Sgm.allI L) vs c W' ∧ K12 l D r W' := by
  obtain ⟨A, hA⟩ : ∃ A, Sgm.allI L = A := ⟨_, rfl⟩
  rw [hA]
  replace hA := Lib.hid hA
  obtain ⟨O, hO⟩ : ∃ O, Obj.cells #[.slice none 0 0, .bool false, .int .i64 0, .bool false, .bool false] 71 = O := ⟨_, rfl⟩
  have hwW := hrows.below.size
  obtain ⟨W1, hW1⟩ : ∃ W1, W.alloc (.cells #[.slice none 0 0, .bool false, .int .i64 0, .bool false, .bool false] 71) = W1 := ⟨_, rfl⟩
  have hrows1 := Lib.hid (rows12_of hrows (hrows.below.alloc hrows.below.size (.cells #[.slice none 0 0, .bool false, .int .i64 0, .bool false, .bool false] 71)) fun j cs T hj _ => Below.heap_alloc W _ j (Array.getElem?_eq_some_iff.1 hj).1)
  have hk1 : RowKit.Hid (K12 l D r (W.alloc (.cells #[.slice none 0 0, .bool false, .int .i64 0, .bool false, .bool false] 71))) := ⟨(Below.heap_alloc W _ l (Array.getElem?_eq_some_iff.1 hk.1).1).trans hk.1, (Below.heap_alloc W _ D (Array.getElem?_eq_some_iff.1 hk.2).1).trans hk.2⟩
  have hbx1 := Lib.hid (blk_new W #[.slice none 0 0, .bool false, .int .i64 0, .bool false, .bool false] 71)
  have hbl1 := blk_alloc hbl (.cells #[.slice none 0 0, .bool false, .int .i64 0, .bool false, .bool false] 71)
  have hsz1 : B ≤ (W.alloc (.cells #[.slice none 0 0, .bool false, .int .i64 0, .bool false, .bool false] 71)).heap.size := by simp; omega
  obtain ⟨bs, hbs⟩ : ∃ bs, W.heap.size = bs := ⟨_, rfl⟩
  rw [hW1] at hrows1 hk1 hbx1 hbl1 hsz1
  rw [hbs] at hbx1 hwW
  have hc0 : W1.cell? ⟨bl, 0, none⟩ = some (.slice p L.length cap) := blk_cell hbl1 0 _ rfl
  replace hrows := Lib.hid hrows
  replace hk := Lib.hid hk
  replace hv := Lib.hid hv
  replace hY := Lib.hid hY
  replace hbl := Lib.hid hbl
  replace hbl1 := Lib.hid hbl1
  replace hW1 := Lib.hid hW1
  replace hbs := Lib.hid hbs
  replace hsz1 := Lib.hid hsz1
  replace hwW := Lib.hid hwW
  clear hBW hO O
  refine callsIn_of_wp Try.func43 rfl trivial ?_ rfl
  simp only [Try.ntmps43, List.size_toArray, List.length_cons, List.length_nil, Nat.reduceAdd, Nat.reduceSub, Array.replicate_succ, Array.replicate_zero, List.push_toArray, List.append_toArray, List.nil_append, List.cons_append]
  gi_upto_region 1 with fail
  rw [hW1.out, hbs.out]
  gi_wp2
  gi_loopg [9] L.length (fun g vi wr => ∃ (k : Nat) (ls : List (List Int)) (c : List Int) (s : Clu.CS) (vs : Value), k ≤ L.length ∧ vi = .int .i64 k ∧ g = L.length - k ∧ Blk wr bs #[vs, .bool s.on, .int .i64 s.kind, .bool s.pict, .bool s.odd] 71 ∧ Sgm.saneB c s = true ∧ ls ++ Sgm.segs c s (L.drop k) = A ∧ ls.length ≤ k ∧ Rows12 B w ba ls vs c wr ∧ K12 l D r wr ∧ B ≤ wr.heap.size)
  case atStart => exact ⟨0, [], [], Clu.zero, .slice none 0 0, Nat.zero_le _, rfl, rfl, hbx1.out, by decide, hA.out, Nat.le_refl _, hrows1.out, hk1.out, hsz1.out⟩
  case round =>
    obtain ⟨k, ls, c, s, vs, hk, rfl, rfl, hbox, hsan, hall, hfew, hrw, hkk, hBr⟩ := hrel
    have hcl : c.length ≤ 32 := by
      unfold Sgm.saneB at hsan
      simp only [Bool.and_eq_true, decide_eq_true_eq] at hsan
      exact hsan.1.1
    obtain ⟨ps, cs, rfl⟩ := ri_form (ri_of_own hrw.own)
    by_cases hlt : k < L.length
    · have hlt' : (k : Int) < (L.length : Int) := by omega
      obtain ⟨b, off, rfl, hb, hcell⟩ := ri_at hv.out (by omega)
      have hc := (hrw.below.cell hb).trans (hcell k hlt)
      obtain ⟨x, hx⟩ : ∃ x, L[k] = x := ⟨_, rfl⟩
      rw [List.drop_eq_getElem_cons hlt, Sgm.segs_fed hsan, feed_step hsan] at hall
      have hfs := Sgm.feed_sane c s L[k]
      rw [feed_step hsan] at hfs
      rw [hx] at hc hall hfs
      have hbeh := behind_any B (.slice ps c.length cs) c s x wr hcl hrw.own hBr
      obtain ⟨q, hq⟩ : ∃ q, Sgm.stepI c s x = q := ⟨_, rfl⟩
      rw [hq] at hall hfs hbeh
      obtain ⟨⟨q1, N⟩, q2⟩ := q
      obtain ⟨on, kd, pi, od⟩ := s
      obtain ⟨xa, xb, xc, xd⟩ := N
      unfold sgV at hbeh
      dsimp only at hbeh hall hfs hbox
      have b0 := blk_cell hbox 0 _ rfl
      have b1 := blk_cell hbox 1 _ rfl
      have b2 := blk_cell hbox 2 _ rfl
      have b3 := blk_cell hbox 3 _ rfl
      have b4 := blk_cell hbox 4 _ rfl
      replace hbeh := Lib.hid hbeh
      replace hrw := Lib.hid hrw
      replace hkk := Lib.hid hkk
      replace hbox := Lib.hid hbox
      replace hall := Lib.hid hall
      replace hfs := Lib.hid hfs
      replace hsan := Lib.hid hsan
      replace hBr := Lib.hid hBr
      clear hcell hx hq
      gi_upto_region 6 with (refine ⟨trivial, ?_⟩; gi_at_call 44; refine (callsIn_wide.2 hbeh.out).mono ?_; rintro e w2 ⟨va, vb, rfl, hbh⟩; obtain ⟨pa, qa, rfl⟩ := ri_form (ri_of_own hbh.own); obtain ⟨pb, qb, rfl⟩ := ri_form (ri_of_own (bhd_toldO hbh)); have hr2 := rows12_behind hrw.out hB hBr.out hbh; have hbx2 := onlyO_blk hbh.only state_ne hrw.out.own hbox.out; have hk2 := Lib.hid (k12_only hkk.out hbh.only hrw.out.own); have c0 := blk_cell hbx2 0 _ rfl; have c1 := blk_cell hbx2 1 _ rfl; have c2 := blk_cell hbx2 2 _ rfl; have c3 := blk_cell hbx2 3 _ rfl; have c4 := blk_cell hbx2 4 _ rfl; have f0 := blk_thaw hbx2 0; have f1 := blk_thaw hbx2 1; have f2 := blk_thaw hbx2 2; have f3 := blk_thaw hbx2 3; have f4 := blk_thaw hbx2 4; replace hr2 := Lib.hid hr2; replace hbx2 := Lib.hid hbx2; replace hbh := Lib.hid hbh)
      have hr3 := Lib.hid (rows12_put5 hr2.out.1 hbx2.out hwW.out (.slice pa q1.length qa) (.bool xa) (.int .i64 xb) (.bool xc) (.bool xd))
      have hv3 := Lib.hid (own_put5 hr2.out.2.1 (own_none (own_off12 state_ne hr2.out.2.1 hbx2.out)) (.slice pa q1.length qa) (.bool xa) (.int .i64 xb) (.bool xc) (.bool xd))
      have hx3 := Lib.hid (blk_put5 hbx2.out (.slice pa q1.length qa) (.bool xa) (.int .i64 xb) (.bool xc) (.bool xd))
      have hk3 := Lib.hid (k12_put5 hk2.out hbx2.out (.slice pa q1.length qa) (.bool xa) (.int .i64 xb) (.bool xc) (.bool xd))
      have hap := Lib.hid hr2.out.2.2
      have hs3 := Lib.hid (show B ≤ (put5 w2 bs (.slice pa q1.length qa) (.bool xa) (.int .i64 xb) (.bool xc) (.bool xd)).heap.size from Nat.le_trans hBr.out (Nat.le_trans hbh.out.only.1.size (below_put5 (n := 0) (Below.refl 0 w2) (Nat.zero_le _) _ _ _ _ _).size))
      try dsimp only at hr3 hv3
      obtain ⟨W3, hW3⟩ : ∃ W3, put5 w2 bs (.slice pa q1.length qa) (.bool xa) (.int .i64 xb) (.bool xc) (.bool xd) = W3 := ⟨_, rfl⟩
      rw [hW3] at hr3 hv3 hx3 hk3 hs3
      unfold put5 at hW3
      rw [hW3]
      replace hW3 := Lib.hid hW3
      clear c0 c1 c2 c3 c4 f0 f1 f2 f3 f4 b0 b1 b2 b3 b4 hc
      by_cases h2 : q2.length = 0
      · have hq0 := List.eq_nil_of_length_eq_zero h2
        have hall' : ls ++ Sgm.segs q1 ⟨xa, xb, xc, xd⟩ (L.drop (k + 1)) = A := by have h := hall.out; rw [if_pos hq0] at h; exact h
        replace hall' := Lib.hid hall'
        replace h2 : ¬ 0 < q2.length := by omega
        replace hq0 := Lib.hid hq0
        gi_wp2
        refine ⟨fun _ h => (by cases h), ?_⟩
        gi_wp2
        gi_roundg (L.length - (k + 1))
        case measure => omega
        case rel => exact ⟨k + 1, ls, q1, ⟨xa, xb, xc, xd⟩, _, by omega, by simp, rfl, hx3.out, hfs.out, hall'.out, by omega, hr3.out, hk3.out, hs3.out⟩
      · have hq0 : q2 ≠ [] := fun e => h2 (by rw [e]; rfl)
        have hall' : (ls ++ [q2]) ++ Sgm.segs q1 ⟨xa, xb, xc, xd⟩ (L.drop (k + 1)) = A := by have h := hall.out; rw [if_neg hq0] at h; simpa using h
        replace hall' := Lib.hid hall'
        replace h2 : 0 < q2.length := by omega
        replace hq0 := Lib.hid hq0
        obtain ⟨fn, tmps, assign, body, hy, hR⟩ := hY.out ls q2 (.slice pb q2.length qb) (.slice pa q1.length qa) q1 W3 hr3.out hv3.out hap.out hk3.out (by omega)
        replace hR := Lib.hid hR
        gi_wp2
        refine hR.out.mono ?_
        rintro e W4 ⟨rfl, hr4, hk4, hs4, hkeep⟩
        have hs4' := Lib.hid (Nat.le_trans hs3.out hs4)
        have hx4 := Lib.hid (hkeep _ _ hx3.out)
        replace hs4 := Lib.hid hs4
        replace hr4 := Lib.hid hr4
        replace hk4 := Lib.hid hk4
        replace hkeep := Lib.hid hkeep
        gi_wp2
        gi_roundg (L.length - (k + 1))
        case measure => omega
        case rel => exact ⟨k + 1, ls ++ [q2], q1, ⟨xa, xb, xc, xd⟩, _, by omega, by simp, rfl, hx4.out, hfs.out, hall'.out, by simp; omega, hr4.out, hk4.out, hs4'.out⟩
    · obtain rfl : k = L.length := by omega
      rw [List.drop_length] at hall
      obtain ⟨on, kd, pi, od⟩ := s
      dsimp only at hbox
      have hA' : ls ++ (if c = [] then [] else [c]) = A := by rw [← hall]; rfl
      have b0 := blk_cell hbox 0 _ rfl
      replace hA' := Lib.hid hA'
      replace hrw := Lib.hid hrw
      replace hkk := Lib.hid hkk
      replace hbox := Lib.hid hbox
      clear hall hsan
      by_cases h2 : c.length = 0
      · have hq0 := List.eq_nil_of_length_eq_zero h2
        have hall' : ls = A := by have h := hA'.out; rw [if_pos hq0] at h; simpa using h
        replace hall' := Lib.hid hall'
        replace h2 : ¬ 0 < c.length := by omega
        replace hq0 := Lib.hid hq0
        gi_wp2
        go_end0
        exact ⟨⟨_, rfl⟩, _, _, hall'.out ▸ hrw.out, hkk.out⟩
      · have hq0 : c ≠ [] := fun e => h2 (by rw [e]; rfl)
        have hall' : ls ++ [c] = A := by have h := hA'.out; rw [if_neg hq0] at h; exact h
        replace hall' := Lib.hid hall'
        replace h2 : 0 < c.length := by omega
        replace hq0 := Lib.hid hq0
        obtain ⟨fn, tmps, assign, body, hy, hR⟩ := hY.out ls c (.slice ps c.length cs) (.slice none 0 0) [] wr (rows12_nil hrw.out) hrw.out.own (by cases ps with | none => exact .inl rfl | some a => exact .inr (fun e => by cases e)) hkk.out (by omega)
        replace hR := Lib.hid hR
        gi_wp2
        refine hR.out.mono ?_
        rintro e W4 ⟨rfl, hr4, hk4, hs4, hkeep⟩
        replace hs4 := Lib.hid hs4
        replace hr4 := Lib.hid hr4
        replace hk4 := Lib.hid hk4
        replace hkeep := Lib.hid hkeep
        gi_wp2
        go_end0
        exact ⟨⟨_, rfl⟩, _, _, hall'.out ▸ hr4.out, hk4.out⟩

end Go.Proofs.Ytconccgfhdmafaa
