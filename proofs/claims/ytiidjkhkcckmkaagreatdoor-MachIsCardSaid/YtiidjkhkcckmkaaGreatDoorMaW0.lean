/- Layer 15: the statements' helpers ours and theirs; Few; the document's example. -/
import Derived.Test.YtiidjkhkcckmkaaGreatDoorMaS
namespace Go.Proofs.YtiidjkhkcckmkaaGreatDoor
set_option linter.unusedSimpArgs false
set_option linter.unusedVariables false
open Go.RowKit Go.Lib
open Mch (MS)
theorem below_three (w : World) (o1 o2 o3 : Obj) : Below w.heap.size w (((w.alloc o1).alloc o2).alloc o3) := ((below_new w o1).alloc (by simp) o2).alloc (by simp; omega) o3
set_option maxHeartbeats 3200000 in
set_option maxRecDepth 100000 in
theorem ours15_any (k : Int) (S : ByteArray) (pn : Option Addr) (n cn : Nat) (pg : Option Addr) (g cg : Nat) (on : Bool) (kd : Int) (pi od : Bool) (pc : Option Addr) (c cc : Nat) (w : World) :
    Calls Tryz.prog 11 #[.agg (cellsM k S pn n cn pg g cg on kd pi od pc c cc)] w fun e w' => e = .returned (.agg (cellsM k S pn n cn pg g cg on kd pi od pc c cc)) ∧ Below w.heap.size w w' := by
  unfold cellsM
  go_enter Tryz.func11, Tryz.ntmps11
  go_wp2_with fail
  refine bodyPost_ret (v := .agg #[.int .i64 k, .string S, .slice pn n cn, .slice pg g cg, .bool on, .int .i64 kd, .bool pi, .bool od, .slice pc c cc]) ?_ rfl ⟨rfl, below_three w _ _ _⟩
  simp [results, Tryz.results11, go_sem]
set_option maxHeartbeats 3200000 in
set_option maxRecDepth 100000 in
theorem theirs15_any (k : Int) (S : ByteArray) (pn : Option Addr) (n cn : Nat) (pg : Option Addr) (g cg : Nat) (on : Bool) (kd : Int) (pi od : Bool) (pc : Option Addr) (c cc : Nat) (w : World) :
    Calls Tryz.prog 16 #[.agg (cellsM k S pn n cn pg g cg on kd pi od pc c cc)] w fun e w' => e = .returned (.agg (cellsM k S pn n cn pg g cg on kd pi od pc c cc)) ∧ Below w.heap.size w w' := by
  unfold cellsM
  go_enter Tryz.func16, Tryz.ntmps16
  go_wp2_with fail
  refine bodyPost_ret (v := .agg #[.int .i64 k, .string S, .slice pn n cn, .slice pg g cg, .bool on, .int .i64 kd, .bool pi, .bool od, .slice pc c cc]) ?_ rfl ⟨rfl, below_three w _ _ _⟩
  simp [results, Tryz.results16, go_sem]
def fewB (d n g c : Nat) : Bool := decide (d ≤ 10) && decide (n ≤ 60) && decide (g ≤ 60) && decide (c ≤ 60)
set_option maxHeartbeats 3200000 in
set_option maxRecDepth 100000 in
theorem few15_any (k : Int) (S : ByteArray) (pn : Option Addr) (n cn : Nat) (pg : Option Addr) (g cg : Nat) (on : Bool) (kd : Int) (pi od : Bool) (pc : Option Addr) (c cc : Nat) (w : World) :
    Calls Tryz.prog 9 #[.agg (cellsM k S pn n cn pg g cg on kd pi od pc c cc)] w fun e w' => e = .returned (.bool (fewB S.size n g c)) ∧ Below w.heap.size w w' := by
  unfold cellsM
  have hb := Lib.hid (fun o => below_new w o)
  by_cases h1 : S.size ≤ 10
  · have t1 : decide ((S.size : Int) ≤ 10) = true := decide_eq_true (by omega)
    by_cases h2 : n ≤ 60
    · have t2 : decide ((n : Int) ≤ 60) = true := decide_eq_true (by omega)
      by_cases h3 : g ≤ 60
      · have t3 : decide ((g : Int) ≤ 60) = true := decide_eq_true (by omega)
        by_cases h4 : c ≤ 60
        · have t4 : decide ((c : Int) ≤ 60) = true := decide_eq_true (by omega)
          have hf : fewB S.size n g c = true := by unfold fewB; simp [h1, h2, h3, h4]
          rw [hf]
          clear hf
          go_enter Tryz.func9, Tryz.ntmps9
          go_wp2_with fail
          go_ret
          exact ⟨rfl, hb.out _⟩
        · have t4 : decide ((c : Int) ≤ 60) = false := decide_eq_false (by omega)
          have hf : fewB S.size n g c = false := by unfold fewB; simp [h4]
          rw [hf]
          clear hf
          go_enter Tryz.func9, Tryz.ntmps9
          go_wp2_with fail
          go_ret
          exact ⟨rfl, hb.out _⟩
      · have t3 : decide ((g : Int) ≤ 60) = false := decide_eq_false (by omega)
        have hf : fewB S.size n g c = false := by unfold fewB; simp [h3]
        rw [hf]
        clear hf
        go_enter Tryz.func9, Tryz.ntmps9
        go_wp2_with fail
        go_ret
        exact ⟨rfl, hb.out _⟩
    · have t2 : decide ((n : Int) ≤ 60) = false := decide_eq_false (by omega)
      have hf : fewB S.size n g c = false := by unfold fewB; simp [h2]
      rw [hf]
      clear hf
      go_enter Tryz.func9, Tryz.ntmps9
      go_wp2_with fail
      go_ret
      exact ⟨rfl, hb.out _⟩
  · have t1 : decide ((S.size : Int) ≤ 10) = false := decide_eq_false (by omega)
    have hf : fewB S.size n g c = false := by unfold fewB; simp [h1]
    rw [hf]
    clear hf
    go_enter Tryz.func9, Tryz.ntmps9
    go_wp2_with fail
    go_ret
    exact ⟨rfl, hb.out _⟩
theorem Mch.ex_all : Mch.allM 3 [101, 769, 102] = [101, 769, -1, 102, -1] := by decide +kernel
theorem Mch.ex_fed : (Mch.feedM (Mch.newM 3) 101).2 = [] ∧ Mch.costM (Mch.feedM (Mch.newM 3) 101).1 = 1 ∧ Mch.saneM (Mch.feedM (Mch.newM 3) 101).1 = true := by decide +kernel
theorem Mch.small_new (k : Int) : Mch.Small (Mch.newM k) := ⟨by simp [Mch.newM, Mch.bare], by simp [Mch.newM, Mch.bare], by simp [Mch.newM, Mch.bare], by simp [Mch.newM, Mch.bare]⟩
theorem Mch.small_sane {m : MS} (h : Mch.saneM m = true) : Mch.Small m := by
  have := Mch.sane_cost ((Mch.sane_iff m).1 h)
  exact ⟨by omega, by omega, by omega, by omega⟩
set_option maxHeartbeats 3200000 in
set_option maxRecDepth 100000 in
theorem awake15 (hN : NewC15) (hS : SaneC15) (hF : FeedC15) (hK : CostC15) (hA : AllC15) (w : World) (hT : Tabs w) :
    Calls Tryz.prog 8 #[] w fun e w' => e = .returned (.bool true) ∧ Below w.heap.size w w' := by
  have h1 := Lib.hid (fun V (W : World) t h => all_of15 hA (k := 3) (v := V) (l := [101, 769, 102]) (w := W) Mch.ex_all t (by simp) h (by unfold WfI; decide) (by unfold I64; decide))
  have h2 := Lib.hid (fun W => hN 3 W (by unfold I64; decide))
  obtain ⟨e1, e2, e3⟩ := Mch.ex_fed
  have hf := fun V (W : World) t h => hF V (Mch.newM 3) 101 W t (Mch.small_new 3) h (by unfold I64; decide)
  obtain ⟨q, hq⟩ : ∃ q, Mch.feedM (Mch.newM 3) 101 = q := ⟨_, rfl⟩
  rw [hq] at hf e1 e2 e3
  obtain ⟨m, o⟩ := q
  dsimp only at e1 e2 e3
  subst e1
  have hsm := Mch.small_sane e3
  have hk := fun V W t h => hK V m W t hsm h
  have hsn := fun V W t h => hS V m W t hsm h
  rw [e2] at hk
  rw [e3] at hsn
  unfold FedM at hf
  dsimp only at hf
  unfold ToldM at h2
  replace hf := Lib.hid hf
  replace hk := Lib.hid hk
  replace hsn := Lib.hid hsn
  replace hT := Lib.hid hT
  have l0 := Lib.hid (ri_of_own (ownI_lit w.heap.size w [101, 769, 102] #[.int .i64 101, .int .i64 769, .int .i64 102] w.heap.size 3 rfl (Nat.le_refl _) rfl rfl (by unfold maxLen; omega)))
  have b0 := Lib.hid (below_new w (.cells #[.int .i64 101, .int .i64 769, .int .i64 102] 3))
  replace hT := Lib.hid (tabs_next hT.out b0.out)
  clear hN hS hF hK hA hq e2 e3 hsm
  go_enter Tryz.func8, Tryz.ntmps8
  go_wp2_with fail
  refine (h1.out _ _ hT.out l0.out).mono ?_
  rintro e w1 ⟨v, rfl, hv, q1⟩
  obtain ⟨p, cap, rfl⟩ := ri_form hv
  replace b0 := Lib.hid (below_on b0.out q1)
  replace hT := Lib.hid (tabs_next hT.out q1)
  replace hv := Lib.hid hv
  clear q1 l0
  go_wp2_with fail
  refine (h2.out _).mono ?_
  rintro e w2 ⟨v2, rfl, r2, q2⟩
  replace b0 := Lib.hid (below_on b0.out q2)
  replace hT := Lib.hid (tabs_next hT.out q2)
  replace hv := Lib.hid (ri_below hv.out q2)
  obtain ⟨pn, cn, pg, cg, pc, cc, rfl⟩ := rm_form r2
  replace r2 := Lib.hid r2
  unfold cellsM at r2 ⊢
  clear q2
  go_wp2_with fail
  refine (hf.out _ _ hT.out r2.out).mono ?_
  rintro e w3 ⟨v3, v4, rfl, r3, r4, _, q3⟩
  replace b0 := Lib.hid (below_on b0.out q3)
  replace hT := Lib.hid (tabs_next hT.out q3)
  replace hv := ri_below hv.out q3
  obtain ⟨p4, c4, rfl⟩ := ri_form r4
  obtain ⟨qn, dn, qg, dg, qc, dc, rfl⟩ := rm_form r3
  unfold cellsM at r3 ⊢
  obtain ⟨b, off, rfl, hlt, hc⟩ := ri_at hv (by simp)
  have bn := below_new w3 (.cells #[.int .i64 m.kind, .string ⟨m.d.toArray⟩, .slice qn m.n.length dn, .slice qg m.g.length dg, .bool m.s.on, .int .i64 m.s.kind, .bool m.s.pict, .bool m.s.odd, .slice qc m.c.length dc] 41)
  have x2 := (bn.cell (p := ⟨b, off + 2, none⟩) hlt).trans (hc 2 (by simp))
  have x4 := (bn.cell (p := ⟨b, off + 4, none⟩) hlt).trans (hc 4 (by simp))
  have r5 := Lib.hid (rm_below r3 bn)
  replace b0 := Lib.hid (b0.out.trans (bn.mono b0.out.size))
  replace hT := Lib.hid (tabs_next hT.out bn)
  clear q3 r2 hc hv r4 r3 bn h1 h2 hf
  go_wp2_with fail
  refine (hk.out _ _ hT.out r5.out).mono ?_
  rintro e w4 ⟨rfl, q4⟩
  replace b0 := Lib.hid (below_on b0.out q4)
  replace hT := Lib.hid (tabs_next hT.out q4)
  have r6 := Lib.hid (rm_below r5.out q4)
  have xx := blk_below (blk_new w3 #[.int .i64 m.kind, .string ⟨m.d.toArray⟩, .slice qn m.n.length dn, .slice qg m.g.length dg, .bool m.s.on, .int .i64 m.s.kind, .bool m.s.pict, .bool m.s.odd, .slice qc m.c.length dc] 41) q4
  have y0 := blk_cell xx 0 _ rfl
  have y1 := blk_cell xx 1 _ rfl
  have y2 := blk_cell xx 2 _ rfl
  have y3 := blk_cell xx 3 _ rfl
  have y4 := blk_cell xx 4 _ rfl
  have y5 := blk_cell xx 5 _ rfl
  have y6 := blk_cell xx 6 _ rfl
  have y7 := blk_cell xx 7 _ rfl
  have y8 := blk_cell xx 8 _ rfl
  clear q4 r5 xx x2 x4 hk
  go_wp2_with fail
  refine (hsn.out _ _ hT.out r6.out).mono ?_
  rintro e w5 ⟨rfl, q5⟩
  replace b0 := Lib.hid (below_on b0.out q5)
  clear q5
  go_wp2_with fail
  go_ret
  exact ⟨rfl, b0.out⟩
end Go.Proofs.YtiidjkhkcckmkaaGreatDoor
