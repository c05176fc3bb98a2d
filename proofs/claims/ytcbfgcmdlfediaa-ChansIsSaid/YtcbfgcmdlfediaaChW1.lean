/- Layer 16: the walk of ChansIs. -/
import Derived.Test.YtcbfgcmdlfediaaChW0
import Derived.Deep.RegionHeld3
import Derived.WalkKit
import Derived.OrdersHeld
namespace Go.Proofs.Ytcbfgcmdlfediaa
set_option linter.unusedSimpArgs false
set_option linter.unusedVariables false
open Go.RowKit Go.Lib
open Stg (Ch)
set_option maxHeartbeats 6400000 in
set_option maxRecDepth 100000 in
theorem chansIs_walk (hS : SaneC16) (hP : PutC16) (hT : TakeC16) (hC : CloseC16) (hE : SpentC16) (hN : CountC16) (v : Value) (c : Ch) (vb : Value) (b : List Int) (w : World) (hv : RCh N0 w v c ∧ (∀ l ∈ c.L, WfI l) ∧ c.L.length ≤ maxLen) (hvb : RI w vb b ∧ WfI b) :
    Calls Try.prog 3 #[v, vb] w fun e w' => e = .returned (.bool true) ∧ Below w.heap.size w w' := by
  obtain ⟨rc, _, hmax⟩ := hv
  have rb := rio_of hvb.1
  have hawake := Lib.hid (awake16 hS hP hT hN)
  obtain ⟨p, cap, rfl, _⟩ := rch_form rc
  obtain ⟨pb, cb, rfl⟩ := ri_form rb.1
  have bq := Lib.hid (Below.refl w.heap.size w)
  obtain ⟨F, hfew⟩ : ∃ F, fewC c = F := ⟨_, rfl⟩
  have hF := fun h : F = true => fewC_few (hfew.trans h)
  obtain ⟨n, hn⟩ : ∃ n, c.L.length = n := ⟨_, rfl⟩
  obtain ⟨cl, hcl⟩ : ∃ cl, c.closed = cl := ⟨_, rfl⟩
  rw [hn, hcl] at rc ⊢
  replace rc := Lib.hid rc
  replace rb := Lib.hid rb
  replace hfew := Lib.hid hfew
  clear hvb
  by_cases hb : b.length ≤ 20
  · have hb1 : ¬ 20 < b.length := by omega
    have hb2 : ¬ (20 : Int) < (b.length : Int) := by omega
    rcases F with _ | _
    · clear hn hcl hS hP hT hC hE hN hF
      go_enter Try.func3, Try.ntmps3
      replace rc := Lib.hid (rch_below rc.out (below_new w (.cells #[.slice p n cap, .bool cl] 24)))
      replace rb := Lib.hid (rio_below rb.out (below_new w (.cells #[.slice p n cap, .bool cl] 24)))
      replace bq := Lib.hid (below_on bq.out (below_new w (.cells #[.slice p n cap, .bool cl] 24)))
      have x0 := Lib.hid (blk_new w #[.slice p n cap, .bool cl] 24)
      go_wp2_with fail
      refine (hawake.out _).mono ?_
      rintro e w2 ⟨rfl, q2⟩
      replace rc := Lib.hid (rch_below rc.out q2)
      replace rb := Lib.hid (rio_below rb.out q2)
      replace x0 := Lib.hid (blk_below x0.out q2)
      replace bq := Lib.hid (below_on bq.out q2)
      clear q2
      have x0_0 := blk_cell x0.out 0 _ rfl
      have x0_1 := blk_cell x0.out 1 _ rfl
      go_wp2_with fail
      refine (rfew16 N0 _ c w2 rc.out hmax).mono ?_
      rintro e w3 ⟨rfl, q3⟩
      clear x0_0 x0_1
      replace rc := Lib.hid (rch_below rc.out q3)
      replace rb := Lib.hid (rio_below rb.out q3)
      replace x0 := Lib.hid (blk_below x0.out q3)
      replace bq := Lib.hid (below_on bq.out q3)
      rw [hfew.out]
      clear q3
      go_wp2_with fail
      go_ret
      exact ⟨rfl, bq.out⟩
    · have hf := (hF rfl).1
      obtain ⟨⟨q1, o1⟩, hq1⟩ : ∃ q, Stg.putC c b = q := ⟨_, rfl⟩
      obtain ⟨⟨q2, l2, o2⟩, hq2⟩ : ∃ q, Stg.takeC c = q := ⟨_, rfl⟩
      obtain ⟨q3, hq3⟩ : ∃ q, Stg.closeC c = q := ⟨_, rfl⟩
      obtain ⟨S, hS1⟩ : ∃ q, Stg.saneC c = q := ⟨_, rfl⟩
      obtain ⟨E, hE1⟩ : ∃ q, Stg.spentC c = q := ⟨_, rfl⟩
      obtain ⟨N, hN1⟩ : ∃ q, Stg.countC c = q := ⟨_, rfl⟩
      have hf1 : q1.Few := few_sane (by have := Stg.put_sane c b; rw [hq1] at this; exact this)
      have hf2 : q2.Few := few_sane (by have := Stg.take_sane c; rw [hq2] at this; exact this)
      have hf3 : q3.Few := few_sane (by have := Stg.close_sane c; rw [hq3] at this; exact this)
      have hl2 : l2.length ≤ 100000 := by
        have h1 : l2 = (Stg.takeC c).2.1 := by rw [hq2]
        have h3 := (Stg.saneC_iff _).1 (Stg.asC_sane c)
        unfold Stg.takeC at h1
        split at h1
        · rw [h1]; simp
        · rename_i x t e
          have := (h3.2 x (by rw [e]; simp)).2
          have h4 : l2 = x := h1
          rw [h4]; omega
      have hput := fun W V U (h : RCh N0 W V c) (h2 : RIo N0 W U b) => put_of16 hP hq1 (old0 W) hf (by omega) h h2
      have hrput := fun W V U (h : RCh N0 W V c) (h2 : RIo N0 W U b) => rput16 N0 V c U b W (old0 W) hf (by omega) h h2
      have htake := fun W V (h : RCh N0 W V c) => take_of16 hT hq2 (old0 W) hf h
      have hrtake := fun W V (h : RCh N0 W V c) => rtake16 N0 V c W hf h
      have hclose := fun W V (h : RCh N0 W V c) => hC N0 V c W (old0 W) hf h
      have hrclose := fun W V (h : RCh N0 W V c) => rclose16 N0 V c W hf h
      have hsane := fun W V (h : RCh N0 W V c) => hS N0 V c W hf h
      have hrsane := fun W V (h : RCh N0 W V c) => rsane16 N0 V c W hf h
      have hspent := fun W V (h : RCh N0 W V c) => hE N0 V c W hf h
      have hrspent := fun W V (h : RCh N0 W V c) => rspent16 N0 V c W hf h
      have hcount := fun W V (h : RCh N0 W V c) => hN N0 V c W hf h
      have hrcount := fun W V (h : RCh N0 W V c) => rcount16 N0 V c W hf h
      rw [hq1] at hrput
      rw [hq2] at hrtake
      rw [hq3] at hclose hrclose
      rw [hS1] at hsane hrsane
      rw [hE1] at hspent hrspent
      rw [hN1] at hcount hrcount
      unfold ToldCB at hput hrput
      unfold ToldCLB at htake hrtake
      unfold ToldC at hclose hrclose
      dsimp only at hput hrput htake hrtake
      have t1 := bne_selfB o1
      have t2 := bne_selfB2 o1
      have t3 := bne_selfB o2
      have t4 := bne_selfB2 o2
      have t5 := beq_selfB S
      have t6 := beq_selfB E
      replace hput := Lib.hid hput
      replace hrput := Lib.hid hrput
      replace htake := Lib.hid htake
      replace hrtake := Lib.hid hrtake
      replace hclose := Lib.hid hclose
      replace hrclose := Lib.hid hrclose
      replace hsane := Lib.hid hsane
      replace hrsane := Lib.hid hrsane
      replace hspent := Lib.hid hspent
      replace hrspent := Lib.hid hrspent
      replace hcount := Lib.hid hcount
      replace hrcount := Lib.hid hrcount
      replace hl2 := Lib.hid hl2
      clear hq1 hq2 hq3 hS1 hE1 hN1 hn hcl hS hP hT hC hE hN hF
      go_enter Try.func3, Try.ntmps3
      replace rc := Lib.hid (rch_below rc.out (below_new w (.cells #[.slice p n cap, .bool cl] 24)))
      replace rb := Lib.hid (rio_below rb.out (below_new w (.cells #[.slice p n cap, .bool cl] 24)))
      replace bq := Lib.hid (below_on bq.out (below_new w (.cells #[.slice p n cap, .bool cl] 24)))
      have x0 := Lib.hid (blk_new w #[.slice p n cap, .bool cl] 24)
      go_wp2_with fail
      refine (hawake.out _).mono ?_
      rintro e w2 ⟨rfl, q2⟩
      replace rc := Lib.hid (rch_below rc.out q2)
      replace rb := Lib.hid (rio_below rb.out q2)
      replace x0 := Lib.hid (blk_below x0.out q2)
      replace bq := Lib.hid (below_on bq.out q2)
      clear q2
      have x0_0 := blk_cell x0.out 0 _ rfl
      have x0_1 := blk_cell x0.out 1 _ rfl
      go_wp2_with fail
      refine (rfew16 N0 _ c w2 rc.out hmax).mono ?_
      rintro e w3 ⟨rfl, q3⟩
      clear x0_0 x0_1
      replace rc := Lib.hid (rch_below rc.out q3)
      replace rb := Lib.hid (rio_below rb.out q3)
      replace x0 := Lib.hid (blk_below x0.out q3)
      replace bq := Lib.hid (below_on bq.out q3)
      rw [hfew.out]
      clear q3
      have x0_0 := blk_cell x0.out 0 _ rfl
      have x0_1 := blk_cell x0.out 1 _ rfl
      go_wp2_with fail
      refine (ours16 rc.out).mono ?_
      rintro e w4 ⟨rfl, q4⟩
      clear x0_0 x0_1
      replace rc := Lib.hid (rch_below rc.out q4)
      replace rb := Lib.hid (rio_below rb.out q4)
      replace x0 := Lib.hid (blk_below x0.out q4)
      replace bq := Lib.hid (below_on bq.out q4)
      clear q4
      go_wp2_with fail
      refine (hput.out _ _ _ rc.out rb.out).mono ?_
      rintro e w5 ⟨v1, rfl, r1, q5⟩
      replace rc := Lib.hid (rch_below rc.out q5)
      replace rb := Lib.hid (rio_below rb.out q5)
      replace x0 := Lib.hid (blk_below x0.out q5)
      replace bq := Lib.hid (below_on bq.out q5)
      obtain ⟨p1, k1, rfl, _⟩ := rch_form r1
      replace r1 := Lib.hid r1
      clear q5
      replace rc := Lib.hid (rch_below rc.out (below_new w5 (.cells #[.slice p1 q1.L.length k1, .bool q1.closed] 28)))
      replace rb := Lib.hid (rio_below rb.out (below_new w5 (.cells #[.slice p1 q1.L.length k1, .bool q1.closed] 28)))
      replace x0 := Lib.hid (blk_below x0.out (below_new w5 (.cells #[.slice p1 q1.L.length k1, .bool q1.closed] 28)))
      replace r1 := Lib.hid (rch_below r1.out (below_new w5 (.cells #[.slice p1 q1.L.length k1, .bool q1.closed] 28)))
      replace bq := Lib.hid (below_on bq.out (below_new w5 (.cells #[.slice p1 q1.L.length k1, .bool q1.closed] 28)))
      have x1 := Lib.hid (blk_new w5 #[.slice p1 q1.L.length k1, .bool q1.closed] 28)
      have x0_0 := blk_cell x0.out 0 _ rfl
      have x0_1 := blk_cell x0.out 1 _ rfl
      go_wp2_with fail
      refine (hrput.out _ _ _ rc.out rb.out).mono ?_
      rintro e w6 ⟨v2, rfl, r2, q6⟩
      clear x0_0 x0_1
      replace rc := Lib.hid (rch_below rc.out q6)
      replace rb := Lib.hid (rio_below rb.out q6)
      replace x0 := Lib.hid (blk_below x0.out q6)
      replace r1 := Lib.hid (rch_below r1.out q6)
      replace x1 := Lib.hid (blk_below x1.out q6)
      replace bq := Lib.hid (below_on bq.out q6)
      obtain ⟨p2, k2, rfl, _⟩ := rch_form r2
      replace r2 := Lib.hid r2
      clear q6
      replace rc := Lib.hid (rch_below rc.out (below_new w6 (.cells #[.slice p2 q1.L.length k2, .bool q1.closed] 24)))
      replace rb := Lib.hid (rio_below rb.out (below_new w6 (.cells #[.slice p2 q1.L.length k2, .bool q1.closed] 24)))
      replace x0 := Lib.hid (blk_below x0.out (below_new w6 (.cells #[.slice p2 q1.L.length k2, .bool q1.closed] 24)))
      replace r1 := Lib.hid (rch_below r1.out (below_new w6 (.cells #[.slice p2 q1.L.length k2, .bool q1.closed] 24)))
      replace x1 := Lib.hid (blk_below x1.out (below_new w6 (.cells #[.slice p2 q1.L.length k2, .bool q1.closed] 24)))
      replace r2 := Lib.hid (rch_below r2.out (below_new w6 (.cells #[.slice p2 q1.L.length k2, .bool q1.closed] 24)))
      replace bq := Lib.hid (below_on bq.out (below_new w6 (.cells #[.slice p2 q1.L.length k2, .bool q1.closed] 24)))
      have x2 := Lib.hid (blk_new w6 #[.slice p2 q1.L.length k2, .bool q1.closed] 24)
      have x0_0 := blk_cell x0.out 0 _ rfl
      have x0_1 := blk_cell x0.out 1 _ rfl
      go_wp2_with fail
      refine (ours16 rc.out).mono ?_
      rintro e w7 ⟨rfl, q7⟩
      clear x0_0 x0_1
      replace rc := Lib.hid (rch_below rc.out q7)
      replace rb := Lib.hid (rio_below rb.out q7)
      replace x0 := Lib.hid (blk_below x0.out q7)
      replace r1 := Lib.hid (rch_below r1.out q7)
      replace x1 := Lib.hid (blk_below x1.out q7)
      replace r2 := Lib.hid (rch_below r2.out q7)
      replace x2 := Lib.hid (blk_below x2.out q7)
      replace bq := Lib.hid (below_on bq.out q7)
      clear q7
      go_wp2_with fail
      refine (htake.out _ _ rc.out).mono ?_
      rintro e w8 ⟨v3, u3, rfl, r3, s3, q8⟩
      replace rc := Lib.hid (rch_below rc.out q8)
      replace rb := Lib.hid (rio_below rb.out q8)
      replace x0 := Lib.hid (blk_below x0.out q8)
      replace r1 := Lib.hid (rch_below r1.out q8)
      replace x1 := Lib.hid (blk_below x1.out q8)
      replace r2 := Lib.hid (rch_below r2.out q8)
      replace x2 := Lib.hid (blk_below x2.out q8)
      replace bq := Lib.hid (below_on bq.out q8)
      obtain ⟨p3, k3, rfl, _⟩ := rch_form r3
      replace r3 := Lib.hid r3
      obtain ⟨a3, d3, rfl⟩ := ri_form s3.1
      replace s3 := Lib.hid s3
      clear q8
      replace rc := Lib.hid (rch_below rc.out (below_new w8 (.cells #[.slice p3 q2.L.length k3, .bool q2.closed] 28)))
      replace rb := Lib.hid (rio_below rb.out (below_new w8 (.cells #[.slice p3 q2.L.length k3, .bool q2.closed] 28)))
      replace x0 := Lib.hid (blk_below x0.out (below_new w8 (.cells #[.slice p3 q2.L.length k3, .bool q2.closed] 28)))
      replace r1 := Lib.hid (rch_below r1.out (below_new w8 (.cells #[.slice p3 q2.L.length k3, .bool q2.closed] 28)))
      replace x1 := Lib.hid (blk_below x1.out (below_new w8 (.cells #[.slice p3 q2.L.length k3, .bool q2.closed] 28)))
      replace r2 := Lib.hid (rch_below r2.out (below_new w8 (.cells #[.slice p3 q2.L.length k3, .bool q2.closed] 28)))
      replace x2 := Lib.hid (blk_below x2.out (below_new w8 (.cells #[.slice p3 q2.L.length k3, .bool q2.closed] 28)))
      replace r3 := Lib.hid (rch_below r3.out (below_new w8 (.cells #[.slice p3 q2.L.length k3, .bool q2.closed] 28)))
      replace s3 := Lib.hid (rio_below s3.out (below_new w8 (.cells #[.slice p3 q2.L.length k3, .bool q2.closed] 28)))
      replace bq := Lib.hid (below_on bq.out (below_new w8 (.cells #[.slice p3 q2.L.length k3, .bool q2.closed] 28)))
      have x3 := Lib.hid (blk_new w8 #[.slice p3 q2.L.length k3, .bool q2.closed] 28)
      have x0_0 := blk_cell x0.out 0 _ rfl
      have x0_1 := blk_cell x0.out 1 _ rfl
      go_wp2_with fail
      refine (hrtake.out _ _ rc.out).mono ?_
      rintro e w9 ⟨v4, u4, rfl, r4, s4, q9⟩
      clear x0_0 x0_1
      replace rc := Lib.hid (rch_below rc.out q9)
      replace rb := Lib.hid (rio_below rb.out q9)
      replace x0 := Lib.hid (blk_below x0.out q9)
      replace r1 := Lib.hid (rch_below r1.out q9)
      replace x1 := Lib.hid (blk_below x1.out q9)
      replace r2 := Lib.hid (rch_below r2.out q9)
      replace x2 := Lib.hid (blk_below x2.out q9)
      replace r3 := Lib.hid (rch_below r3.out q9)
      replace s3 := Lib.hid (rio_below s3.out q9)
      replace x3 := Lib.hid (blk_below x3.out q9)
      replace bq := Lib.hid (below_on bq.out q9)
      obtain ⟨p4, k4, rfl, _⟩ := rch_form r4
      replace r4 := Lib.hid r4
      obtain ⟨a4, d4, rfl⟩ := ri_form s4.1
      replace s4 := Lib.hid s4
      clear q9
      replace rc := Lib.hid (rch_below rc.out (below_new w9 (.cells #[.slice p4 q2.L.length k4, .bool q2.closed] 24)))
      replace rb := Lib.hid (rio_below rb.out (below_new w9 (.cells #[.slice p4 q2.L.length k4, .bool q2.closed] 24)))
      replace x0 := Lib.hid (blk_below x0.out (below_new w9 (.cells #[.slice p4 q2.L.length k4, .bool q2.closed] 24)))
      replace r1 := Lib.hid (rch_below r1.out (below_new w9 (.cells #[.slice p4 q2.L.length k4, .bool q2.closed] 24)))
      replace x1 := Lib.hid (blk_below x1.out (below_new w9 (.cells #[.slice p4 q2.L.length k4, .bool q2.closed] 24)))
      replace r2 := Lib.hid (rch_below r2.out (below_new w9 (.cells #[.slice p4 q2.L.length k4, .bool q2.closed] 24)))
      replace x2 := Lib.hid (blk_below x2.out (below_new w9 (.cells #[.slice p4 q2.L.length k4, .bool q2.closed] 24)))
      replace r3 := Lib.hid (rch_below r3.out (below_new w9 (.cells #[.slice p4 q2.L.length k4, .bool q2.closed] 24)))
      replace s3 := Lib.hid (rio_below s3.out (below_new w9 (.cells #[.slice p4 q2.L.length k4, .bool q2.closed] 24)))
      replace x3 := Lib.hid (blk_below x3.out (below_new w9 (.cells #[.slice p4 q2.L.length k4, .bool q2.closed] 24)))
      replace r4 := Lib.hid (rch_below r4.out (below_new w9 (.cells #[.slice p4 q2.L.length k4, .bool q2.closed] 24)))
      replace s4 := Lib.hid (rio_below s4.out (below_new w9 (.cells #[.slice p4 q2.L.length k4, .bool q2.closed] 24)))
      replace bq := Lib.hid (below_on bq.out (below_new w9 (.cells #[.slice p4 q2.L.length k4, .bool q2.closed] 24)))
      have x4 := Lib.hid (blk_new w9 #[.slice p4 q2.L.length k4, .bool q2.closed] 24)
      have x1_0 := blk_cell x1.out 0 _ rfl
      have x1_1 := blk_cell x1.out 1 _ rfl
      have x2_0 := blk_cell x2.out 0 _ rfl
      have x2_1 := blk_cell x2.out 1 _ rfl
      go_wp2_with fail
      refine (lsame_self16 hf1 r1.out r2.out).mono ?_
      rintro e w10 ⟨rfl, q10⟩
      clear x1_0 x1_1 x2_0 x2_1
      replace rc := Lib.hid (rch_below rc.out q10)
      replace rb := Lib.hid (rio_below rb.out q10)
      replace x0 := Lib.hid (blk_below x0.out q10)
      replace r1 := Lib.hid (rch_below r1.out q10)
      replace x1 := Lib.hid (blk_below x1.out q10)
      replace r2 := Lib.hid (rch_below r2.out q10)
      replace x2 := Lib.hid (blk_below x2.out q10)
      replace r3 := Lib.hid (rch_below r3.out q10)
      replace s3 := Lib.hid (rio_below s3.out q10)
      replace x3 := Lib.hid (blk_below x3.out q10)
      replace r4 := Lib.hid (rch_below r4.out q10)
      replace s4 := Lib.hid (rio_below s4.out q10)
      replace x4 := Lib.hid (blk_below x4.out q10)
      replace bq := Lib.hid (below_on bq.out q10)
      clear q10
      have x3_0 := blk_cell x3.out 0 _ rfl
      have x3_1 := blk_cell x3.out 1 _ rfl
      have x4_0 := blk_cell x4.out 0 _ rfl
      have x4_1 := blk_cell x4.out 1 _ rfl
      go_wp2_with fail
      refine (lsame_self16 hf2 r3.out r4.out).mono ?_
      rintro e w11 ⟨rfl, q11⟩
      clear x3_0 x3_1 x4_0 x4_1
      replace rc := Lib.hid (rch_below rc.out q11)
      replace rb := Lib.hid (rio_below rb.out q11)
      replace x0 := Lib.hid (blk_below x0.out q11)
      replace r1 := Lib.hid (rch_below r1.out q11)
      replace x1 := Lib.hid (blk_below x1.out q11)
      replace r2 := Lib.hid (rch_below r2.out q11)
      replace x2 := Lib.hid (blk_below x2.out q11)
      replace r3 := Lib.hid (rch_below r3.out q11)
      replace s3 := Lib.hid (rio_below s3.out q11)
      replace x3 := Lib.hid (blk_below x3.out q11)
      replace r4 := Lib.hid (rch_below r4.out q11)
      replace s4 := Lib.hid (rio_below s4.out q11)
      replace x4 := Lib.hid (blk_below x4.out q11)
      replace bq := Lib.hid (below_on bq.out q11)
      clear q11
      go_wp2_with fail
      refine (same_self _ _ l2 _ hl2.out s3.out.1 s4.out.1).mono ?_
      rintro e w12 ⟨rfl, q12⟩
      replace rc := Lib.hid (rch_below rc.out q12)
      replace rb := Lib.hid (rio_below rb.out q12)
      replace x0 := Lib.hid (blk_below x0.out q12)
      replace r1 := Lib.hid (rch_below r1.out q12)
      replace x1 := Lib.hid (blk_below x1.out q12)
      replace r2 := Lib.hid (rch_below r2.out q12)
      replace x2 := Lib.hid (blk_below x2.out q12)
      replace r3 := Lib.hid (rch_below r3.out q12)
      replace s3 := Lib.hid (rio_below s3.out q12)
      replace x3 := Lib.hid (blk_below x3.out q12)
      replace r4 := Lib.hid (rch_below r4.out q12)
      replace s4 := Lib.hid (rio_below s4.out q12)
      replace x4 := Lib.hid (blk_below x4.out q12)
      replace bq := Lib.hid (below_on bq.out q12)
      clear q12
      clear r1 r2 r3 r4 s3 s4 x1 x2 x3 x4 rb
      go_upto_region 10 with (fail)
      have H2 := Lib.hid (show _ ∧ _ from ⟨blk_cell x0.out 0 (.slice p n cap) rfl, blk_cell x0.out 1 (.bool cl) rfl⟩)
      clear x0
      refine wp_region_held_drew (S := fun w' => w'.cell? ⟨w.heap.size, 0, none⟩ = some (.slice p n cap) ∧ w'.cell? ⟨w.heap.size, 1, none⟩ = some (.bool cl)) (by kernel_rfl) (H2.out) (fun hS => ?_)
      replace rc := Lib.hid (rch_below rc.out (Below.refl _ _).drew)
      replace bq := Lib.hid (below_on bq.out (Below.refl _ _).drew)
      refine' wpAnyH_take (i := 0) (oi := ⟨_, _, _, _, _, _⟩) (v := _) rfl (by kernel_rfl) (by kernel_rfl) (by kernel_rfl) (fun _ _ _ h => h) (Or.inl ⟨by rfl, ?hy0⟩) hS ?rest0
      case hy0 => (intro wz hSw; (try dsimp only at hSw); go_simp; try with_reducible rfl)
      try simp only [Act.put, List.setIfInBounds_toArray, List.set_cons_zero, List.set_cons_succ]
      refine' wpAnyH_take (i := 1) (oi := ⟨_, _, _, _, _, _⟩) (v := _) rfl (by kernel_rfl) (by kernel_rfl) (by kernel_rfl) (fun _ _ _ h => h) (Or.inl ⟨by rfl, ?hy1⟩) hS ?rest1
      case hy1 => (intro wz hSw; (try dsimp only at hSw); go_simp; try with_reducible rfl)
      try simp only [Act.put, List.setIfInBounds_toArray, List.set_cons_zero, List.set_cons_succ]
      refine' wpAnyH_take (i := 2) (oi := ⟨_, _, _, _, _, _⟩) (v := _) rfl (by kernel_rfl) (by kernel_rfl) (by kernel_rfl) (fun _ _ _ h => h) (Or.inl ⟨by rfl, ?hy2⟩) hS ?rest2
      case hy2 => (intro wz hSw; (try dsimp only at hSw); go_simp; try with_reducible rfl)
      try simp only [Act.put, List.setIfInBounds_toArray, List.set_cons_zero, List.set_cons_succ]
      refine' wpAnyH_take (i := 5) (oi := ⟨_, _, _, _, _, _⟩) (v := _) rfl (by kernel_rfl) (by kernel_rfl) (by kernel_rfl) (fun _ _ _ h => h) (Or.inl ⟨by rfl, ?hy5⟩) hS ?rest5
      case hy5 => (intro wz hSw; (try dsimp only at hSw); go_simp; try with_reducible rfl)
      try simp only [Act.put, List.setIfInBounds_toArray, List.set_cons_zero, List.set_cons_succ]
      refine wpAnyH_ready (rs := [3]) (by kernel_rfl) (by simp) (AllReadyH.cons rfl (fun K hK => ?_) AllReadyH.nil)
      go_simp
      go_at_call 12
      refine (ours16 rc.out).mono ?_
      rintro e w13 ⟨rfl, q13⟩
      go_wp2_with fail
      refine hK.out _ _ (held2_16 q13 hS) (fun hSn => ?_)
      clear hS
      have hS := hSn
      clear hSn
      clear hK K
      try simp only [Act.put, List.setIfInBounds_toArray, List.set_cons_zero, List.set_cons_succ]
      replace rc := Lib.hid (rch_below rc.out q13)
      replace bq := Lib.hid (below_on bq.out q13)
      clear q13
      refine wpAnyH_ready (rs := [4]) (by kernel_rfl) (by simp) (AllReadyH.cons rfl (fun K hK => ?_) AllReadyH.nil)
      go_simp
      go_at_call 18
      refine (hsane.out _ _ rc.out).mono ?_
      rintro e w14 ⟨rfl, q14⟩
      go_wp2_with fail
      refine hK.out _ _ (held2_16 q14 hS) (fun hSn => ?_)
      clear hS
      have hS := hSn
      clear hSn
      clear hK K
      try simp only [Act.put, List.setIfInBounds_toArray, List.set_cons_zero, List.set_cons_succ]
      replace rc := Lib.hid (rch_below rc.out q14)
      replace bq := Lib.hid (below_on bq.out q14)
      clear q14
      refine wpAnyH_ready (rs := [6]) (by kernel_rfl) (by simp) (AllReadyH.cons rfl (fun K hK => ?_) AllReadyH.nil)
      go_simp
      go_at_call 19
      refine (hrsane.out _ _ rc.out).mono ?_
      rintro e w15 ⟨rfl, q15⟩
      go_wp2_with fail
      refine hK.out _ _ (held2_16 q15 hS) (fun hSn => ?_)
      clear hS
      have hS := hSn
      clear hSn
      clear hK K
      try simp only [Act.put, List.setIfInBounds_toArray, List.set_cons_zero, List.set_cons_succ]
      replace rc := Lib.hid (rch_below rc.out q15)
      replace bq := Lib.hid (below_on bq.out q15)
      clear q15
      refine' wpAnyH_take (i := 7) (oi := ⟨_, _, _, _, _, _⟩) (v := _) rfl (by kernel_rfl) (by kernel_rfl) (by kernel_rfl) (fun _ _ _ h => h) (Or.inl ⟨by rfl, ?hy7⟩) hS ?rest7
      case hy7 => (intro wz hSw; (try dsimp only at hSw); go_simp; try with_reducible rfl)
      try simp only [Act.put, List.setIfInBounds_toArray, List.set_cons_zero, List.set_cons_succ]
      refine' wpAnyH_take (i := 8) (oi := ⟨_, _, _, _, _, _⟩) (v := _) rfl (by kernel_rfl) (by kernel_rfl) (by kernel_rfl) (fun _ _ _ h => h) (Or.inl ⟨by rfl, ?hy8⟩) hS ?rest8
      case hy8 => (intro wz hSw; (try dsimp only at hSw); go_simp; try with_reducible rfl)
      try simp only [Act.put, List.setIfInBounds_toArray, List.set_cons_zero, List.set_cons_succ]
      refine' wpAnyH_take (i := 9) (oi := ⟨_, _, _, _, _, _⟩) (v := _) rfl (by kernel_rfl) (by kernel_rfl) (by kernel_rfl) (fun _ _ _ h => h) (Or.inl ⟨by rfl, ?hy9⟩) hS ?rest9
      case hy9 => (intro wz hSw; (try dsimp only at hSw); go_simp; try with_reducible rfl)
      try simp only [Act.put, List.setIfInBounds_toArray, List.set_cons_zero, List.set_cons_succ]
      refine' wpAnyH_take (i := 10) (oi := ⟨_, _, _, _, _, _⟩) (v := _) rfl (by kernel_rfl) (by kernel_rfl) (by kernel_rfl) (fun _ _ _ h => h) (Or.inl ⟨by rfl, ?hy10⟩) hS ?rest10
      case hy10 => (intro wz hSw; (try dsimp only at hSw); go_simp; try with_reducible rfl)
      try simp only [Act.put, List.setIfInBounds_toArray, List.set_cons_zero, List.set_cons_succ]
      refine' wpAnyH_take (i := 13) (oi := ⟨_, _, _, _, _, _⟩) (v := _) rfl (by kernel_rfl) (by kernel_rfl) (by kernel_rfl) (fun _ _ _ h => h) (Or.inl ⟨by rfl, ?hy13⟩) hS ?rest13
      case hy13 => (intro wz hSw; (try dsimp only at hSw); go_simp; try with_reducible rfl)
      try simp only [Act.put, List.setIfInBounds_toArray, List.set_cons_zero, List.set_cons_succ]
      refine wpAnyH_ready (rs := [11]) (by kernel_rfl) (by simp) (AllReadyH.cons rfl (fun K hK => ?_) AllReadyH.nil)
      go_simp
      go_at_call 12
      refine (ours16 rc.out).mono ?_
      rintro e w16 ⟨rfl, q16⟩
      go_wp2_with fail
      refine hK.out _ _ (held2_16 q16 hS) (fun hSn => ?_)
      clear hS
      have hS := hSn
      clear hSn
      clear hK K
      try simp only [Act.put, List.setIfInBounds_toArray, List.set_cons_zero, List.set_cons_succ]
      replace rc := Lib.hid (rch_below rc.out q16)
      replace bq := Lib.hid (below_on bq.out q16)
      clear q16
      refine wpAnyH_ready (rs := [12]) (by kernel_rfl) (by simp) (AllReadyH.cons rfl (fun K hK => ?_) AllReadyH.nil)
      go_simp
      go_at_call 20
      refine (hclose.out _ _ rc.out).mono ?_
      rintro e w17 ⟨v5, rfl, r5, q17⟩
      obtain ⟨p5, k5, rfl, _⟩ := rch_form r5
      replace r5 := Lib.hid r5
      go_wp2_with fail
      refine hK.out _ _ (held2_16 q17 hS) (fun hSn => ?_)
      clear hS
      have hS := hSn
      clear hSn
      clear hK K
      try simp only [Act.put, List.setIfInBounds_toArray, List.set_cons_zero, List.set_cons_succ]
      replace rc := Lib.hid (rch_below rc.out q17)
      replace bq := Lib.hid (below_on bq.out q17)
      clear q17
      refine wpAnyH_ready (rs := [14]) (by kernel_rfl) (by simp) (AllReadyH.cons rfl (fun K hK => ?_) AllReadyH.nil)
      go_simp
      go_at_call 21
      refine (hrclose.out _ _ rc.out).mono ?_
      rintro e w18 ⟨v6, rfl, r6, q18⟩
      obtain ⟨p6, k6, rfl, _⟩ := rch_form r6
      replace r6 := Lib.hid r6
      go_wp2_with fail
      refine hK.out _ _ (held2_16 q18 hS) (fun hSn => ?_)
      clear hS
      have hS := hSn
      clear hSn
      clear hK K
      try simp only [Act.put, List.setIfInBounds_toArray, List.set_cons_zero, List.set_cons_succ]
      replace rc := Lib.hid (rch_below rc.out q18)
      replace r5 := Lib.hid (rch_below r5.out q18)
      replace bq := Lib.hid (below_on bq.out q18)
      clear q18
      refine wpAnyH_ready (rs := [15]) (by kernel_rfl) (by simp) (AllReadyH.cons rfl (fun K hK => ?_) AllReadyH.nil)
      go_simp
      go_at_call 16
      refine (lsame_self16 hf3 r5.out r6.out).mono ?_
      rintro e w19 ⟨rfl, q19⟩
      go_wp2_with fail
      refine hK.out _ _ (held2_16 q19 hS) (fun hSn => ?_)
      clear hS
      have hS := hSn
      clear hSn
      clear hK K
      try simp only [Act.put, List.setIfInBounds_toArray, List.set_cons_zero, List.set_cons_succ]
      replace rc := Lib.hid (rch_below rc.out q19)
      replace r5 := Lib.hid (rch_below r5.out q19)
      replace r6 := Lib.hid (rch_below r6.out q19)
      replace bq := Lib.hid (below_on bq.out q19)
      clear q19
      refine' wpAnyH_take (i := 16) (oi := ⟨_, _, _, _, _, _⟩) (v := _) rfl (by kernel_rfl) (by kernel_rfl) (by kernel_rfl) (fun _ _ _ h => h) (Or.inl ⟨by rfl, ?hy16⟩) hS ?rest16
      case hy16 => (intro wz hSw; (try dsimp only at hSw); go_simp; try with_reducible rfl)
      try simp only [Act.put, List.setIfInBounds_toArray, List.set_cons_zero, List.set_cons_succ]
      refine' wpAnyH_take (i := 17) (oi := ⟨_, _, _, _, _, _⟩) (v := _) rfl (by kernel_rfl) (by kernel_rfl) (by kernel_rfl) (fun _ _ _ h => h) (Or.inl ⟨by rfl, ?hy17⟩) hS ?rest17
      case hy17 => (intro wz hSw; (try dsimp only at hSw); go_simp; try with_reducible rfl)
      try simp only [Act.put, List.setIfInBounds_toArray, List.set_cons_zero, List.set_cons_succ]
      refine' wpAnyH_take (i := 18) (oi := ⟨_, _, _, _, _, _⟩) (v := _) rfl (by kernel_rfl) (by kernel_rfl) (by kernel_rfl) (fun _ _ _ h => h) (Or.inl ⟨by rfl, ?hy18⟩) hS ?rest18
      case hy18 => (intro wz hSw; (try dsimp only at hSw); go_simp; try with_reducible rfl)
      try simp only [Act.put, List.setIfInBounds_toArray, List.set_cons_zero, List.set_cons_succ]
      refine' wpAnyH_take (i := 21) (oi := ⟨_, _, _, _, _, _⟩) (v := _) rfl (by kernel_rfl) (by kernel_rfl) (by kernel_rfl) (fun _ _ _ h => h) (Or.inl ⟨by rfl, ?hy21⟩) hS ?rest21
      case hy21 => (intro wz hSw; (try dsimp only at hSw); go_simp; try with_reducible rfl)
      try simp only [Act.put, List.setIfInBounds_toArray, List.set_cons_zero, List.set_cons_succ]
      refine wpAnyH_ready (rs := [19]) (by kernel_rfl) (by simp) (AllReadyH.cons rfl (fun K hK => ?_) AllReadyH.nil)
      go_simp
      go_at_call 12
      refine (ours16 rc.out).mono ?_
      rintro e w20 ⟨rfl, q20⟩
      go_wp2_with fail
      refine hK.out _ _ (held2_16 q20 hS) (fun hSn => ?_)
      clear hS
      have hS := hSn
      clear hSn
      clear hK K
      try simp only [Act.put, List.setIfInBounds_toArray, List.set_cons_zero, List.set_cons_succ]
      replace rc := Lib.hid (rch_below rc.out q20)
      replace r5 := Lib.hid (rch_below r5.out q20)
      replace r6 := Lib.hid (rch_below r6.out q20)
      replace bq := Lib.hid (below_on bq.out q20)
      clear q20
      refine wpAnyH_ready (rs := [20]) (by kernel_rfl) (by simp) (AllReadyH.cons rfl (fun K hK => ?_) AllReadyH.nil)
      go_simp
      go_at_call 22
      refine (hspent.out _ _ rc.out).mono ?_
      rintro e w21 ⟨rfl, q21⟩
      go_wp2_with fail
      refine hK.out _ _ (held2_16 q21 hS) (fun hSn => ?_)
      clear hS
      have hS := hSn
      clear hSn
      clear hK K
      try simp only [Act.put, List.setIfInBounds_toArray, List.set_cons_zero, List.set_cons_succ]
      replace rc := Lib.hid (rch_below rc.out q21)
      replace r5 := Lib.hid (rch_below r5.out q21)
      replace r6 := Lib.hid (rch_below r6.out q21)
      replace bq := Lib.hid (below_on bq.out q21)
      clear q21
      refine wpAnyH_ready (rs := [22]) (by kernel_rfl) (by simp) (AllReadyH.cons rfl (fun K hK => ?_) AllReadyH.nil)
      go_simp
      go_at_call 23
      refine (hrspent.out _ _ rc.out).mono ?_
      rintro e w22 ⟨rfl, q22⟩
      go_wp2_with fail
      refine hK.out _ _ (held2_16 q22 hS) (fun hSn => ?_)
      clear hS
      have hS := hSn
      clear hSn
      clear hK K
      try simp only [Act.put, List.setIfInBounds_toArray, List.set_cons_zero, List.set_cons_succ]
      replace rc := Lib.hid (rch_below rc.out q22)
      replace r5 := Lib.hid (rch_below r5.out q22)
      replace r6 := Lib.hid (rch_below r6.out q22)
      replace bq := Lib.hid (below_on bq.out q22)
      clear q22
      refine' wpAnyH_take (i := 23) (oi := ⟨_, _, _, _, _, _⟩) (v := _) rfl (by kernel_rfl) (by kernel_rfl) (by kernel_rfl) (fun _ _ _ h => h) (Or.inl ⟨by rfl, ?hy23⟩) hS ?rest23
      case hy23 => (intro wz hSw; (try dsimp only at hSw); go_simp; try with_reducible rfl)
      try simp only [Act.put, List.setIfInBounds_toArray, List.set_cons_zero, List.set_cons_succ]
      refine' wpAnyH_take (i := 24) (oi := ⟨_, _, _, _, _, _⟩) (v := _) rfl (by kernel_rfl) (by kernel_rfl) (by kernel_rfl) (fun _ _ _ h => h) (Or.inl ⟨by rfl, ?hy24⟩) hS ?rest24
      case hy24 => (intro wz hSw; (try dsimp only at hSw); go_simp; try with_reducible rfl)
      try simp only [Act.put, List.setIfInBounds_toArray, List.set_cons_zero, List.set_cons_succ]
      refine' wpAnyH_take (i := 25) (oi := ⟨_, _, _, _, _, _⟩) (v := _) rfl (by kernel_rfl) (by kernel_rfl) (by kernel_rfl) (fun _ _ _ h => h) (Or.inl ⟨by rfl, ?hy25⟩) hS ?rest25
      case hy25 => (intro wz hSw; (try dsimp only at hSw); go_simp; try with_reducible rfl)
      try simp only [Act.put, List.setIfInBounds_toArray, List.set_cons_zero, List.set_cons_succ]
      refine' wpAnyH_take (i := 26) (oi := ⟨_, _, _, _, _, _⟩) (v := _) rfl (by kernel_rfl) (by kernel_rfl) (by kernel_rfl) (fun _ _ _ h => h) (Or.inl ⟨by rfl, ?hy26⟩) hS ?rest26
      case hy26 => (intro wz hSw; (try dsimp only at hSw); go_simp; try with_reducible rfl)
      try simp only [Act.put, List.setIfInBounds_toArray, List.set_cons_zero, List.set_cons_succ]
      refine' wpAnyH_take (i := 29) (oi := ⟨_, _, _, _, _, _⟩) (v := _) rfl (by kernel_rfl) (by kernel_rfl) (by kernel_rfl) (fun _ _ _ h => h) (Or.inl ⟨by rfl, ?hy29⟩) hS ?rest29
      case hy29 => (intro wz hSw; (try dsimp only at hSw); go_simp; try with_reducible rfl)
      try simp only [Act.put, List.setIfInBounds_toArray, List.set_cons_zero, List.set_cons_succ]
      refine wpAnyH_ready (rs := [27]) (by kernel_rfl) (by simp) (AllReadyH.cons rfl (fun K hK => ?_) AllReadyH.nil)
      go_simp
      go_at_call 12
      refine (ours16 rc.out).mono ?_
      rintro e w23 ⟨rfl, q23⟩
      go_wp2_with fail
      refine hK.out _ _ (held2_16 q23 hS) (fun hSn => ?_)
      clear hS
      have hS := hSn
      clear hSn
      clear hK K
      try simp only [Act.put, List.setIfInBounds_toArray, List.set_cons_zero, List.set_cons_succ]
      replace rc := Lib.hid (rch_below rc.out q23)
      replace r5 := Lib.hid (rch_below r5.out q23)
      replace r6 := Lib.hid (rch_below r6.out q23)
      replace bq := Lib.hid (below_on bq.out q23)
      clear q23
      refine wpAnyH_ready (rs := [28]) (by kernel_rfl) (by simp) (AllReadyH.cons rfl (fun K hK => ?_) AllReadyH.nil)
      go_simp
      go_at_call 24
      refine (hcount.out _ _ rc.out).mono ?_
      rintro e w24 ⟨rfl, q24⟩
      go_wp2_with fail
      refine hK.out _ _ (held2_16 q24 hS) (fun hSn => ?_)
      clear hS
      have hS := hSn
      clear hSn
      clear hK K
      try simp only [Act.put, List.setIfInBounds_toArray, List.set_cons_zero, List.set_cons_succ]
      replace rc := Lib.hid (rch_below rc.out q24)
      replace r5 := Lib.hid (rch_below r5.out q24)
      replace r6 := Lib.hid (rch_below r6.out q24)
      replace bq := Lib.hid (below_on bq.out q24)
      clear q24
      refine wpAnyH_ready (rs := [30]) (by kernel_rfl) (by simp) (AllReadyH.cons rfl (fun K hK => ?_) AllReadyH.nil)
      go_simp
      go_at_call 25
      refine (hrcount.out _ _ rc.out).mono ?_
      rintro e w25 ⟨rfl, q25⟩
      go_wp2_with fail
      refine hK.out _ _ (held2_16 q25 hS) (fun hSn => ?_)
      clear hS
      have hS := hSn
      clear hSn
      clear hK K
      try simp only [Act.put, List.setIfInBounds_toArray, List.set_cons_zero, List.set_cons_succ]
      replace rc := Lib.hid (rch_below rc.out q25)
      replace r5 := Lib.hid (rch_below r5.out q25)
      replace r6 := Lib.hid (rch_below r6.out q25)
      replace bq := Lib.hid (below_on bq.out q25)
      clear q25
      refine' wpAnyH_take (i := 31) (oi := ⟨_, _, _, _, _, _⟩) (v := _) rfl (by kernel_rfl) (by kernel_rfl) (by kernel_rfl) (fun _ _ _ h => h) (Or.inl ⟨by rfl, ?hy31⟩) hS ?rest31
      case hy31 => (intro wz hSw; (try dsimp only at hSw); go_simp; try with_reducible rfl)
      try simp only [Act.put, List.setIfInBounds_toArray, List.set_cons_zero, List.set_cons_succ]
      refine' wpAnyH_take (i := 32) (oi := ⟨_, _, _, _, _, _⟩) (v := _) rfl (by kernel_rfl) (by kernel_rfl) (by kernel_rfl) (fun _ _ _ h => h) (Or.inl ⟨by rfl, ?hy32⟩) hS ?rest32
      case hy32 => (intro wz hSw; (try dsimp only at hSw); go_simp; try with_reducible rfl)
      try simp only [Act.put, List.setIfInBounds_toArray, List.set_cons_zero, List.set_cons_succ]
      refine' wpAnyH_take (i := 33) (oi := ⟨_, _, _, _, _, _⟩) (v := _) rfl (by kernel_rfl) (by kernel_rfl) (by kernel_rfl) (fun _ _ _ h => h) (Or.inl ⟨by rfl, ?hy33⟩) hS ?rest33
      case hy33 => (intro wz hSw; (try dsimp only at hSw); go_simp; try with_reducible rfl)
      try simp only [Act.put, List.setIfInBounds_toArray, List.set_cons_zero, List.set_cons_succ]
      refine wpAnyH_done (by kernel_rfl) ?_ _
      clear hS
      go_simp
      go_wp2_with fail
      go_ret
      exact ⟨rfl, bq.out⟩
  · have hb1 : 20 < b.length := by omega
    have hb2 : (20 : Int) < (b.length : Int) := by omega
    clear hn hcl hS hP hT hC hE hN hF
    rcases F with _ | _
    all_goals
      go_enter Try.func3, Try.ntmps3
      replace rc := Lib.hid (rch_below rc.out (below_new w (.cells #[.slice p n cap, .bool cl] 24)))
      replace rb := Lib.hid (rio_below rb.out (below_new w (.cells #[.slice p n cap, .bool cl] 24)))
      replace bq := Lib.hid (below_on bq.out (below_new w (.cells #[.slice p n cap, .bool cl] 24)))
      have x0 := Lib.hid (blk_new w #[.slice p n cap, .bool cl] 24)
      go_wp2_with fail
      refine (hawake.out _).mono ?_
      rintro e w2 ⟨rfl, q2⟩
      replace rc := Lib.hid (rch_below rc.out q2)
      replace rb := Lib.hid (rio_below rb.out q2)
      replace x0 := Lib.hid (blk_below x0.out q2)
      replace bq := Lib.hid (below_on bq.out q2)
      clear q2
      have x0_0 := blk_cell x0.out 0 _ rfl
      have x0_1 := blk_cell x0.out 1 _ rfl
      go_wp2_with fail
      refine (rfew16 N0 _ c w2 rc.out hmax).mono ?_
      rintro e w3 ⟨rfl, q3⟩
      clear x0_0 x0_1
      replace rc := Lib.hid (rch_below rc.out q3)
      replace rb := Lib.hid (rio_below rb.out q3)
      replace x0 := Lib.hid (blk_below x0.out q3)
      replace bq := Lib.hid (below_on bq.out q3)
      rw [hfew.out]
      clear q3
      go_wp2_with fail
      go_ret
      exact ⟨rfl, bq.out⟩
end Go.Proofs.Ytcbfgcmdlfediaa
