/- Layer 11: the walk of ClusExtends. -/
import Derived.Test.YtodckdlanlgkeaaClW0
import Derived.Deep.LoopGhost
import Derived.Deep.DeepCutAuto
namespace Go.Proofs.Ytodckdlanlgkeaa
set_option linter.unusedSimpArgs false
set_option linter.unusedVariables false
open Go.RowKit Go.Lib


theorem five {j : Int} (h : 0 ≤ j) : j = 0 ∨ j = 1 ∨ j = 2 ∨ j = 3 ∨ 4 ≤ j := by omega
theorem eight {k : Int} (h : 0 ≤ k) : k = 0 ∨ k = 1 ∨ k = 2 ∨ k = 3 ∨ k = 4 ∨ k = 5 ∨ k = 8 ∨ (6 ≤ k ∧ k ≠ 8) := by omega

/-- what is known of the place m + 1 -/
theorem cut_next (l : List Int) (m : Nat) (h : m + 1 < l.length) (j k : Int) (hj : Prp.gcbI l[m] = j) (hk : Prp.gcbI l[m + 1] = k) (c : Bool) (hc : (Clu.cutsI Clu.zero l)[m + 1]? = some c) :
    ((j = 1 ∧ k = 2) → c = false) ∧ (¬ (j = 1 ∧ k = 2) → ((1 ≤ j ∧ j ≤ 3) ∨ (1 ≤ k ∧ k ≤ 3)) → c = true) ∧ (¬ (1 ≤ j ∧ j ≤ 3) → (k = 4 ∨ k = 5 ∨ k = 8) → c = false) := by
  rw [List.getElem?_eq_getElem (by rw [Clu.cuts_len]; exact h), Clu.cuts_at _ _ _ h] at hc
  replace hc := Option.some.inj hc
  obtain ⟨_, _, h1, h2, h3⟩ := Clu.go_last Clu.zero l m (by omega)
  rw [hj] at h3
  unfold Clu.endsI at hc
  rw [hk] at hc
  refine ⟨fun h => ?_, fun hn h => ?_, fun hn h => ?_⟩
  · rw [← hc]; exact Clu.ends_crlf (h3.trans h.1) h.2
  · rw [← hc]; exact Clu.ends_control h1 h2 (by rw [h3]; exact hn) (by rw [h3]; exact h)
  · rw [← hc]; exact Clu.ends_extend (by rw [h3]; exact hn) h
theorem cut_first (l : List Int) (h : 0 < l.length) : (Clu.cutsI Clu.zero l)[0]? = some false := by
  rw [List.getElem?_eq_getElem (by rw [Clu.cuts_len]; exact h), Clu.cuts_at _ _ _ h, List.take_zero]
  exact congrArg some (Clu.zero_ends _)

set_option maxHeartbeats 25600000 in
set_option maxRecDepth 100000 in
theorem clusExtends_walk (hS : SaneC11) (hE : EndsC11) (hN : NextC11) (hC : CutsC11) (hG : GcbC) (hM : MarkPC) (v : Value) (l : List Int) (w : World) (hv : RI w v l ∧ WfI l) :
    Calls Try.prog 5 #[v] w fun e w' => e = .returned (.bool true) ∧ Below w.heap.size w w' := by
  obtain ⟨hri, _⟩ := hv
  obtain ⟨p, cap, rfl⟩ := ri_form hri
  have hawake := Lib.hid (awake11 hS hE hN hC)
  replace hri := Lib.hid hri
  by_cases hl : l.length ≤ 200
  · have hl' : decide (200 < l.length) = false := decide_eq_false (by omega)
    have hl2 : ¬ (200 : Int) < (l.length : Int) := by omega
    have hc1 := fun W h => cuts_of11 hC (v := .slice p l.length cap) (l := l) (w := W) rfl (by omega) h
    have n1 := Clu.cuts_len Clu.zero l
    have hnext := cut_next l
    have hfirst := cut_first l
    obtain ⟨C, hCC⟩ : ∃ C, Clu.cutsI Clu.zero l = C := ⟨_, rfl⟩
    rw [hCC] at hc1 n1 hnext hfirst
    replace hc1 := Lib.hid hc1
    replace n1 := Lib.hid n1
    replace hnext := Lib.hid hnext
    replace hfirst := Lib.hid hfirst
    have hnn : ((l.length : Int) != (l.length : Int)) = false := by simp
    clear hCC hS hE hN hC
    go_enter Try.func5, Try.ntmps5
    go_wp2_with fail
    refine (hawake.out w).mono ?_
    rintro e w0 ⟨rfl, b0⟩
    replace b0 := Lib.hid b0
    go_wp2_with fail
    refine (hc1.out _ (ri_below hri.out b0.out)).mono ?_
    rintro e w1 ⟨vc, rfl, tc, q1⟩
    obtain ⟨pc, cc, rfl⟩ := rt_form tc
    rw [n1.out] at tc ⊢
    have hr1 := Lib.hid (ri_below hri.out (below_on b0.out q1))
    have b1 := Lib.hid (below_on b0.out q1)
    replace tc := Lib.hid tc
    clear q1 b0
    go_wp2_with fail
    go_loopg [5, 6, 7, 8, 9] l.length (fun g vi v6 v7 v8 v9 wr => ∃ i : Nat, i ≤ l.length ∧ vi = .int .i64 i ∧ g = l.length - i ∧ Below w1.heap.size w1 wr)
    case atStart => exact ⟨0, Nat.zero_le _, rfl, rfl, Below.refl _ _⟩
    case round =>
      obtain ⟨i, hi, rfl, rfl, hbel⟩ := hrel
      by_cases hlt : i < l.length
      · have hlt' : (i : Int) < (l.length : Int) := by omega
        have hn1 := n1.out
        obtain ⟨b, off, rfl, hb, hcell⟩ := ri_at hr1.out (by omega)
        obtain ⟨bc, oc, rfl, hbc, hcut⟩ := rt_at tc.out (by omega)
        rcases i with _ | m
        · have c0 : wr.cell? ⟨b, off, none⟩ = some (.int .i64 l[0]) := (hbel.cell (p := ⟨b, off, none⟩) hb).trans (hcell 0 hlt)
          obtain ⟨x, hx⟩ : ∃ x, l[0] = x := ⟨_, rfl⟩
          rw [hx] at c0
          have d0 : w1.cell? ⟨bc, oc, none⟩ = some (.bool false) := by
            have h := hcut 0 (by omega)
            have h2 := hfirst.out hlt
            rw [List.getElem?_eq_getElem (by omega)] at h2
            rwa [Option.some.inj h2, Nat.add_zero] at h
          have hgx := Lib.hid (hG x)
          replace hbel := Lib.hid hbel
          clear hcell hcut hx hn1
          go_wp2_with fail
          refine (hgx.out _).mono ?_
          rintro e w2 ⟨rfl, q2⟩
          have d2 : w2.cell? ⟨bc, oc, none⟩ = some (.bool false) := ((below_on hbel.out q2).cell (p := ⟨bc, oc, none⟩) hbc).trans d0
          have b3 := Lib.hid (below_on hbel.out q2)
          clear q2 d0 c0
          go_wp2_with fail
          go_roundg (l.length - 1)
          case measure => omega
          case rel => exact ⟨1, by omega, by go_num, rfl, b3.out⟩
        · have c0 : wr.cell? ⟨b, off + (m + 1), none⟩ = some (.int .i64 l[m + 1]) := (hbel.cell (p := ⟨b, off + (m + 1), none⟩) hb).trans (hcell (m + 1) hlt)
          have c1 : w1.cell? ⟨b, off + m, none⟩ = some (.int .i64 l[m]) := hcell m (by omega)
          have d1 : w1.cell? ⟨bc, oc + (m + 1), none⟩ = some (.bool (C[m + 1]'(by omega))) := hcut (m + 1) (by omega)
          have d2 : w1.cell? ⟨b, off + (m + 1), none⟩ = some (.int .i64 l[m + 1]) := hcell (m + 1) hlt
          have hnx := hnext.out m hlt
          have hgx := fun W => hG l[m + 1] W
          have hgy := fun W => hG l[m] W
          have hkb := Prp.gcb_bounds l[m + 1]
          have hjb := Prp.gcb_bounds l[m]
          have hmk : Prp.gcbI l[m + 1] ≠ 4 → Prp.mrkB l[m + 1] = false := fun h => by
            unfold Prp.mrkB
            refine decide_eq_false fun h2 => h (Prp.ccc_gcb (by omega))
          have hmx := fun W => hM l[m + 1] W
          obtain ⟨x, hx⟩ : ∃ x, l[m + 1] = x := ⟨_, rfl⟩
          obtain ⟨y, hy⟩ : ∃ x, l[m] = x := ⟨_, rfl⟩
          obtain ⟨c, hc⟩ : ∃ c, C[m + 1]'(by omega) = c := ⟨_, rfl⟩
          rw [hx] at c0 d2 hgx hkb hmk hmx
          rw [hy] at c1 hgy hjb
          rw [hc] at d1
          obtain ⟨k, hk⟩ : ∃ k, Prp.gcbI x = k := ⟨_, rfl⟩
          obtain ⟨j, hj⟩ : ∃ k, Prp.gcbI y = k := ⟨_, rfl⟩
          have hcut := Lib.hid (hnx j k (by rw [hy]; exact hj) (by rw [hx]; exact hk) c (by rw [List.getElem?_eq_getElem (by omega), hc]))
          rw [hk] at hgx hkb hmk
          rw [hj] at hgy hjb
          have hmark := Lib.hid (fun (h : k ≠ 4) W => (hmk h) ▸ hmx W)
          have hk0 := hkb.1
          have hj0 := hjb.1
          replace hgx := Lib.hid hgx
          replace hgy := Lib.hid hgy
          replace hbel := Lib.hid hbel
          have hm1 : ((m : Int) + 1 == 0) = false := beq_eq_false_iff_ne.2 (by omega)
          have hm2 : ¬ (m : Int) + 1 = 0 := by omega
          clear hcell hx hy hc hn1 hnx hmk hmx hkb hjb hk hj
          go_wp2_with fail
          refine (hgx.out _).mono ?_
          rintro e w2 ⟨rfl, q2⟩
          have c2 : w2.cell? ⟨b, off + m, none⟩ = some (.int .i64 y) := ((below_on hbel.out q2).cell (p := ⟨b, off + m, none⟩) hb).trans c1
          have b2 := Lib.hid (below_on hbel.out q2)
          clear q2 c0 c1 hbel
          go_wp2_with fail
          refine (hgy.out _).mono ?_
          rintro e w3 ⟨rfl, q3⟩
          have c3 : w3.cell? ⟨bc, oc + (m + 1), none⟩ = some (.bool c) := ((below_on b2.out q3).cell (p := ⟨bc, oc + (m + 1), none⟩) hbc).trans d1
          have c4 : w3.cell? ⟨b, off + (m + 1), none⟩ = some (.int .i64 x) := ((below_on b2.out q3).cell (p := ⟨b, off + (m + 1), none⟩) hb).trans d2
          have b3 := Lib.hid (below_on b2.out q3)
          clear q3 c2 d1 d2 b2
          go_upto_region 15 with (fail)
          rcases five hj0 with rfl | rfl | rfl | rfl | hj4
          · rcases eight hk0 with rfl | rfl | rfl | rfl | rfl | rfl | rfl | ⟨hk6, hk8⟩
            · clear hcut
              go_wp2_with fail
              refine (hmark.out (by omega) _).mono ?_
              rintro e w4 ⟨rfl, q4⟩
              replace b3 := Lib.hid (below_on b3.out q4)
              clear q4
              go_wp2_with fail
              go_roundg (l.length - (m + 1 + 1))
              case measure => omega
              case rel => exact ⟨m + 1 + 1, by omega, by go_num, rfl, b3.out⟩
            · obtain rfl : c = true := hcut.out.2.1 (by omega) (by omega)
              clear hcut
              go_wp2_with fail
              refine (hmark.out (by omega) _).mono ?_
              rintro e w4 ⟨rfl, q4⟩
              replace b3 := Lib.hid (below_on b3.out q4)
              clear q4
              go_wp2_with fail
              go_roundg (l.length - (m + 1 + 1))
              case measure => omega
              case rel => exact ⟨m + 1 + 1, by omega, by go_num, rfl, b3.out⟩
            · obtain rfl : c = true := hcut.out.2.1 (by omega) (by omega)
              clear hcut
              go_wp2_with fail
              refine (hmark.out (by omega) _).mono ?_
              rintro e w4 ⟨rfl, q4⟩
              replace b3 := Lib.hid (below_on b3.out q4)
              clear q4
              go_wp2_with fail
              go_roundg (l.length - (m + 1 + 1))
              case measure => omega
              case rel => exact ⟨m + 1 + 1, by omega, by go_num, rfl, b3.out⟩
            · obtain rfl : c = true := hcut.out.2.1 (by omega) (by omega)
              clear hcut
              go_wp2_with fail
              refine (hmark.out (by omega) _).mono ?_
              rintro e w4 ⟨rfl, q4⟩
              replace b3 := Lib.hid (below_on b3.out q4)
              clear q4
              go_wp2_with fail
              go_roundg (l.length - (m + 1 + 1))
              case measure => omega
              case rel => exact ⟨m + 1 + 1, by omega, by go_num, rfl, b3.out⟩
            · obtain rfl : c = false := hcut.out.2.2 (by omega) (by omega)
              clear hcut
              go_wp2_with fail
              go_roundg (l.length - (m + 1 + 1))
              case measure => omega
              case rel => exact ⟨m + 1 + 1, by omega, by go_num, rfl, b3.out⟩
            · obtain rfl : c = false := hcut.out.2.2 (by omega) (by omega)
              clear hcut
              go_wp2_with fail
              go_roundg (l.length - (m + 1 + 1))
              case measure => omega
              case rel => exact ⟨m + 1 + 1, by omega, by go_num, rfl, b3.out⟩
            · obtain rfl : c = false := hcut.out.2.2 (by omega) (by omega)
              clear hcut
              go_wp2_with fail
              go_roundg (l.length - (m + 1 + 1))
              case measure => omega
              case rel => exact ⟨m + 1 + 1, by omega, by go_num, rfl, b3.out⟩
            · have g1 : (1 : Int) ≤ k := by omega
              have g2 : ¬ k ≤ 3 := by omega
              have g3 : (k == 2) = false := beq_eq_false_iff_ne.2 (by omega)
              have g4 : (k == 4) = false := beq_eq_false_iff_ne.2 (by omega)
              have g5 : (k == 5) = false := beq_eq_false_iff_ne.2 (by omega)
              have g6 : (k == 8) = false := beq_eq_false_iff_ne.2 (by omega)
              clear hcut
              go_wp2_with fail
              refine (hmark.out (by omega) _).mono ?_
              rintro e w4 ⟨rfl, q4⟩
              replace b3 := Lib.hid (below_on b3.out q4)
              clear q4
              go_wp2_with fail
              go_roundg (l.length - (m + 1 + 1))
              case measure => omega
              case rel => exact ⟨m + 1 + 1, by omega, by go_num, rfl, b3.out⟩
          · rcases eight hk0 with rfl | rfl | rfl | rfl | rfl | rfl | rfl | ⟨hk6, hk8⟩
            · obtain rfl : c = true := hcut.out.2.1 (by omega) (by omega)
              clear hcut
              go_wp2_with fail
              go_roundg (l.length - (m + 1 + 1))
              case measure => omega
              case rel => exact ⟨m + 1 + 1, by omega, by go_num, rfl, b3.out⟩
            · obtain rfl : c = true := hcut.out.2.1 (by omega) (by omega)
              clear hcut
              go_wp2_with fail
              go_roundg (l.length - (m + 1 + 1))
              case measure => omega
              case rel => exact ⟨m + 1 + 1, by omega, by go_num, rfl, b3.out⟩
            · obtain rfl : c = false := hcut.out.1 ⟨rfl, rfl⟩
              clear hcut
              go_wp2_with fail
              go_roundg (l.length - (m + 1 + 1))
              case measure => omega
              case rel => exact ⟨m + 1 + 1, by omega, by go_num, rfl, b3.out⟩
            · obtain rfl : c = true := hcut.out.2.1 (by omega) (by omega)
              clear hcut
              go_wp2_with fail
              go_roundg (l.length - (m + 1 + 1))
              case measure => omega
              case rel => exact ⟨m + 1 + 1, by omega, by go_num, rfl, b3.out⟩
            · obtain rfl : c = true := hcut.out.2.1 (by omega) (by omega)
              clear hcut
              go_wp2_with fail
              go_roundg (l.length - (m + 1 + 1))
              case measure => omega
              case rel => exact ⟨m + 1 + 1, by omega, by go_num, rfl, b3.out⟩
            · obtain rfl : c = true := hcut.out.2.1 (by omega) (by omega)
              clear hcut
              go_wp2_with fail
              go_roundg (l.length - (m + 1 + 1))
              case measure => omega
              case rel => exact ⟨m + 1 + 1, by omega, by go_num, rfl, b3.out⟩
            · obtain rfl : c = true := hcut.out.2.1 (by omega) (by omega)
              clear hcut
              go_wp2_with fail
              go_roundg (l.length - (m + 1 + 1))
              case measure => omega
              case rel => exact ⟨m + 1 + 1, by omega, by go_num, rfl, b3.out⟩
            · have g1 : (1 : Int) ≤ k := by omega
              have g2 : ¬ k ≤ 3 := by omega
              have g3 : (k == 2) = false := beq_eq_false_iff_ne.2 (by omega)
              have g4 : (k == 4) = false := beq_eq_false_iff_ne.2 (by omega)
              have g5 : (k == 5) = false := beq_eq_false_iff_ne.2 (by omega)
              have g6 : (k == 8) = false := beq_eq_false_iff_ne.2 (by omega)
              obtain rfl : c = true := hcut.out.2.1 (by omega) (by omega)
              clear hcut
              go_wp2_with fail
              go_roundg (l.length - (m + 1 + 1))
              case measure => omega
              case rel => exact ⟨m + 1 + 1, by omega, by go_num, rfl, b3.out⟩
          · rcases eight hk0 with rfl | rfl | rfl | rfl | rfl | rfl | rfl | ⟨hk6, hk8⟩
            · obtain rfl : c = true := hcut.out.2.1 (by omega) (by omega)
              clear hcut
              go_wp2_with fail
              go_roundg (l.length - (m + 1 + 1))
              case measure => omega
              case rel => exact ⟨m + 1 + 1, by omega, by go_num, rfl, b3.out⟩
            · obtain rfl : c = true := hcut.out.2.1 (by omega) (by omega)
              clear hcut
              go_wp2_with fail
              go_roundg (l.length - (m + 1 + 1))
              case measure => omega
              case rel => exact ⟨m + 1 + 1, by omega, by go_num, rfl, b3.out⟩
            · obtain rfl : c = true := hcut.out.2.1 (by omega) (by omega)
              clear hcut
              go_wp2_with fail
              go_roundg (l.length - (m + 1 + 1))
              case measure => omega
              case rel => exact ⟨m + 1 + 1, by omega, by go_num, rfl, b3.out⟩
            · obtain rfl : c = true := hcut.out.2.1 (by omega) (by omega)
              clear hcut
              go_wp2_with fail
              go_roundg (l.length - (m + 1 + 1))
              case measure => omega
              case rel => exact ⟨m + 1 + 1, by omega, by go_num, rfl, b3.out⟩
            · obtain rfl : c = true := hcut.out.2.1 (by omega) (by omega)
              clear hcut
              go_wp2_with fail
              go_roundg (l.length - (m + 1 + 1))
              case measure => omega
              case rel => exact ⟨m + 1 + 1, by omega, by go_num, rfl, b3.out⟩
            · obtain rfl : c = true := hcut.out.2.1 (by omega) (by omega)
              clear hcut
              go_wp2_with fail
              go_roundg (l.length - (m + 1 + 1))
              case measure => omega
              case rel => exact ⟨m + 1 + 1, by omega, by go_num, rfl, b3.out⟩
            · obtain rfl : c = true := hcut.out.2.1 (by omega) (by omega)
              clear hcut
              go_wp2_with fail
              go_roundg (l.length - (m + 1 + 1))
              case measure => omega
              case rel => exact ⟨m + 1 + 1, by omega, by go_num, rfl, b3.out⟩
            · have g1 : (1 : Int) ≤ k := by omega
              have g2 : ¬ k ≤ 3 := by omega
              have g3 : (k == 2) = false := beq_eq_false_iff_ne.2 (by omega)
              have g4 : (k == 4) = false := beq_eq_false_iff_ne.2 (by omega)
              have g5 : (k == 5) = false := beq_eq_false_iff_ne.2 (by omega)
              have g6 : (k == 8) = false := beq_eq_false_iff_ne.2 (by omega)
              obtain rfl : c = true := hcut.out.2.1 (by omega) (by omega)
              clear hcut
              go_wp2_with fail
              go_roundg (l.length - (m + 1 + 1))
              case measure => omega
              case rel => exact ⟨m + 1 + 1, by omega, by go_num, rfl, b3.out⟩
          · rcases eight hk0 with rfl | rfl | rfl | rfl | rfl | rfl | rfl | ⟨hk6, hk8⟩
            · obtain rfl : c = true := hcut.out.2.1 (by omega) (by omega)
              clear hcut
              go_wp2_with fail
              go_roundg (l.length - (m + 1 + 1))
              case measure => omega
              case rel => exact ⟨m + 1 + 1, by omega, by go_num, rfl, b3.out⟩
            · obtain rfl : c = true := hcut.out.2.1 (by omega) (by omega)
              clear hcut
              go_wp2_with fail
              go_roundg (l.length - (m + 1 + 1))
              case measure => omega
              case rel => exact ⟨m + 1 + 1, by omega, by go_num, rfl, b3.out⟩
            · obtain rfl : c = true := hcut.out.2.1 (by omega) (by omega)
              clear hcut
              go_wp2_with fail
              go_roundg (l.length - (m + 1 + 1))
              case measure => omega
              case rel => exact ⟨m + 1 + 1, by omega, by go_num, rfl, b3.out⟩
            · obtain rfl : c = true := hcut.out.2.1 (by omega) (by omega)
              clear hcut
              go_wp2_with fail
              go_roundg (l.length - (m + 1 + 1))
              case measure => omega
              case rel => exact ⟨m + 1 + 1, by omega, by go_num, rfl, b3.out⟩
            · obtain rfl : c = true := hcut.out.2.1 (by omega) (by omega)
              clear hcut
              go_wp2_with fail
              go_roundg (l.length - (m + 1 + 1))
              case measure => omega
              case rel => exact ⟨m + 1 + 1, by omega, by go_num, rfl, b3.out⟩
            · obtain rfl : c = true := hcut.out.2.1 (by omega) (by omega)
              clear hcut
              go_wp2_with fail
              go_roundg (l.length - (m + 1 + 1))
              case measure => omega
              case rel => exact ⟨m + 1 + 1, by omega, by go_num, rfl, b3.out⟩
            · obtain rfl : c = true := hcut.out.2.1 (by omega) (by omega)
              clear hcut
              go_wp2_with fail
              go_roundg (l.length - (m + 1 + 1))
              case measure => omega
              case rel => exact ⟨m + 1 + 1, by omega, by go_num, rfl, b3.out⟩
            · have g1 : (1 : Int) ≤ k := by omega
              have g2 : ¬ k ≤ 3 := by omega
              have g3 : (k == 2) = false := beq_eq_false_iff_ne.2 (by omega)
              have g4 : (k == 4) = false := beq_eq_false_iff_ne.2 (by omega)
              have g5 : (k == 5) = false := beq_eq_false_iff_ne.2 (by omega)
              have g6 : (k == 8) = false := beq_eq_false_iff_ne.2 (by omega)
              obtain rfl : c = true := hcut.out.2.1 (by omega) (by omega)
              clear hcut
              go_wp2_with fail
              go_roundg (l.length - (m + 1 + 1))
              case measure => omega
              case rel => exact ⟨m + 1 + 1, by omega, by go_num, rfl, b3.out⟩
          · rcases eight hk0 with rfl | rfl | rfl | rfl | rfl | rfl | rfl | ⟨hk6, hk8⟩
            · have f1 : (1 : Int) ≤ j := by omega
              have f2 : ¬ j ≤ 3 := by omega
              have f3 : (j == 1) = false := beq_eq_false_iff_ne.2 (by omega)
              clear hcut
              go_wp2_with fail
              refine (hmark.out (by omega) _).mono ?_
              rintro e w4 ⟨rfl, q4⟩
              replace b3 := Lib.hid (below_on b3.out q4)
              clear q4
              go_wp2_with fail
              go_roundg (l.length - (m + 1 + 1))
              case measure => omega
              case rel => exact ⟨m + 1 + 1, by omega, by go_num, rfl, b3.out⟩
            · have f1 : (1 : Int) ≤ j := by omega
              have f2 : ¬ j ≤ 3 := by omega
              have f3 : (j == 1) = false := beq_eq_false_iff_ne.2 (by omega)
              obtain rfl : c = true := hcut.out.2.1 (by omega) (by omega)
              clear hcut
              go_wp2_with fail
              refine (hmark.out (by omega) _).mono ?_
              rintro e w4 ⟨rfl, q4⟩
              replace b3 := Lib.hid (below_on b3.out q4)
              clear q4
              go_wp2_with fail
              go_roundg (l.length - (m + 1 + 1))
              case measure => omega
              case rel => exact ⟨m + 1 + 1, by omega, by go_num, rfl, b3.out⟩
            · have f1 : (1 : Int) ≤ j := by omega
              have f2 : ¬ j ≤ 3 := by omega
              have f3 : (j == 1) = false := beq_eq_false_iff_ne.2 (by omega)
              obtain rfl : c = true := hcut.out.2.1 (by omega) (by omega)
              clear hcut
              go_wp2_with fail
              refine (hmark.out (by omega) _).mono ?_
              rintro e w4 ⟨rfl, q4⟩
              replace b3 := Lib.hid (below_on b3.out q4)
              clear q4
              go_wp2_with fail
              go_roundg (l.length - (m + 1 + 1))
              case measure => omega
              case rel => exact ⟨m + 1 + 1, by omega, by go_num, rfl, b3.out⟩
            · have f1 : (1 : Int) ≤ j := by omega
              have f2 : ¬ j ≤ 3 := by omega
              have f3 : (j == 1) = false := beq_eq_false_iff_ne.2 (by omega)
              obtain rfl : c = true := hcut.out.2.1 (by omega) (by omega)
              clear hcut
              go_wp2_with fail
              refine (hmark.out (by omega) _).mono ?_
              rintro e w4 ⟨rfl, q4⟩
              replace b3 := Lib.hid (below_on b3.out q4)
              clear q4
              go_wp2_with fail
              go_roundg (l.length - (m + 1 + 1))
              case measure => omega
              case rel => exact ⟨m + 1 + 1, by omega, by go_num, rfl, b3.out⟩
            · have f1 : (1 : Int) ≤ j := by omega
              have f2 : ¬ j ≤ 3 := by omega
              have f3 : (j == 1) = false := beq_eq_false_iff_ne.2 (by omega)
              obtain rfl : c = false := hcut.out.2.2 (by omega) (by omega)
              clear hcut
              go_wp2_with fail
              go_roundg (l.length - (m + 1 + 1))
              case measure => omega
              case rel => exact ⟨m + 1 + 1, by omega, by go_num, rfl, b3.out⟩
            · have f1 : (1 : Int) ≤ j := by omega
              have f2 : ¬ j ≤ 3 := by omega
              have f3 : (j == 1) = false := beq_eq_false_iff_ne.2 (by omega)
              obtain rfl : c = false := hcut.out.2.2 (by omega) (by omega)
              clear hcut
              go_wp2_with fail
              go_roundg (l.length - (m + 1 + 1))
              case measure => omega
              case rel => exact ⟨m + 1 + 1, by omega, by go_num, rfl, b3.out⟩
            · have f1 : (1 : Int) ≤ j := by omega
              have f2 : ¬ j ≤ 3 := by omega
              have f3 : (j == 1) = false := beq_eq_false_iff_ne.2 (by omega)
              obtain rfl : c = false := hcut.out.2.2 (by omega) (by omega)
              clear hcut
              go_wp2_with fail
              go_roundg (l.length - (m + 1 + 1))
              case measure => omega
              case rel => exact ⟨m + 1 + 1, by omega, by go_num, rfl, b3.out⟩
            · have f1 : (1 : Int) ≤ j := by omega
              have f2 : ¬ j ≤ 3 := by omega
              have f3 : (j == 1) = false := beq_eq_false_iff_ne.2 (by omega)
              have g1 : (1 : Int) ≤ k := by omega
              have g2 : ¬ k ≤ 3 := by omega
              have g3 : (k == 2) = false := beq_eq_false_iff_ne.2 (by omega)
              have g4 : (k == 4) = false := beq_eq_false_iff_ne.2 (by omega)
              have g5 : (k == 5) = false := beq_eq_false_iff_ne.2 (by omega)
              have g6 : (k == 8) = false := beq_eq_false_iff_ne.2 (by omega)
              clear hcut
              go_wp2_with fail
              refine (hmark.out (by omega) _).mono ?_
              rintro e w4 ⟨rfl, q4⟩
              replace b3 := Lib.hid (below_on b3.out q4)
              clear q4
              go_wp2_with fail
              go_roundg (l.length - (m + 1 + 1))
              case measure => omega
              case rel => exact ⟨m + 1 + 1, by omega, by go_num, rfl, b3.out⟩
      · obtain rfl : i = l.length := by omega
        have hlt' : decide ((l.length : Int) < (l.length : Int)) = false := by simp
        have bE := Lib.hid (below_on b1.out hbel)
        clear hbel
        go_wp2_with fail
        go_ret
        exact ⟨rfl, bE.out⟩
  · have hl' : decide (200 < l.length) = true := decide_eq_true (by omega)
    have hl2 : (200 : Int) < (l.length : Int) := by omega
    clear hS hE hN hC hG hM
    go_enter Try.func5, Try.ntmps5
    go_wp2_with fail
    refine (hawake.out _).mono ?_
    rintro e w1 ⟨rfl, q1⟩
    have b1 := Lib.hid q1
    clear q1
    go_wp2_with fail
    go_ret
    exact ⟨rfl, b1.out⟩

end Go.Proofs.Ytodckdlanlgkeaa
