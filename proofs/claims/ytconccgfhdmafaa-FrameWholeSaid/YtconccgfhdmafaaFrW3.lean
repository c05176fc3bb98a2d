/- Layer 13: the walk of FrameWhole. -/
import Derived.Test.YtconccgfhdmafaaFrW0
import Derived.Test.YtconccgfhdmafaaFrR2
import Derived.Deep.DeepCutAuto
namespace Go.Proofs.Ytconccgfhdmafaa
set_option linter.unusedSimpArgs false
set_option linter.unusedVariables false
open Go.RowKit Go.Lib


theorem bytes_takeN {w : World} {p : Option Addr} {n cap : Nat} {l : List UInt8} (h : RBytes w (.slice p n cap) l) (k : Nat) (hk : k ≤ l.length) : RBytes w (.slice p k cap) (l.take k) := by
  cases p with
  | none =>
    rcases h with ⟨h, rfl⟩ | ⟨a, c, h, _⟩
    · simp at h hk
      subst hk
      rw [h.2]
      exact .inl ⟨rfl, rfl⟩
    · simp at h
  | some a => exact bytes_take h k hk (Nat.le_trans hk (by have := bytes_cap h; obtain ⟨p', c', he⟩ := bytes_form h; simp at he; omega))

theorem sr_cap {w : World} {p : Option Addr} {n cap : Nat} {ts : List (List UInt8)} (h : SR w (.slice p n cap) ts) : n ≤ cap := by
  rcases h with ⟨h, _⟩ | ⟨a, c, he, hc, _⟩
  · simp at h
    omega
  · simp at he
    omega

theorem sr_take {w : World} {p : Option Addr} {n cap : Nat} {ts : List (List UInt8)} (h : SR w (.slice p n cap) ts) (k : Nat) (hk : k ≤ ts.length) : SR w (.slice p k cap) (ts.take k) := by
  have hlen : (ts.take k).length = k := by rw [List.length_take]; omega
  rcases h with ⟨h, rfl⟩ | ⟨a, c, he, hc, h⟩
  · simp at h hk
    subst hk
    obtain ⟨rfl, _, rfl⟩ := h
    exact .inl ⟨rfl, rfl⟩
  · simp at he
    obtain ⟨rfl, _, rfl⟩ := he
    refine .inr ⟨a, cap, by rw [hlen], by omega, fun h0 => ?_⟩
    obtain ⟨b, off, rfl, h1, h2⟩ := h (by omega)
    exact ⟨b, off, rfl, h1, fun i hi => by rw [List.getElem_take]; exact h2 i (by omega)⟩

set_option maxHeartbeats 6400000 in
set_option maxRecDepth 100000 in
theorem frameWhole_walk (hP : PutC13) (hT : TakeC13) (hA : AllC13) (hR : RefC13) (vb : Value) (b : List UInt8) (vm : Value) (m : List UInt8) (w : World) (hvb : RBytes w vb b) (hvm : RBytes w vm m) :
    Calls Try.prog 6 #[vb, vm] w fun e w' => e = .returned (.bool true) ∧ Below w.heap.size w w' := by
  obtain ⟨i0, hi, hz0, hz1, hz2⟩ := info_parts info_byte
  obtain ⟨pb, cb, rfl⟩ := bytes_form hvb
  obtain ⟨pm, cm, rfl⟩ := bytes_form hvm
  have hawake := Lib.hid (awake13 hP hT hR)
  have hcb := bytes_cap hvb
  have hrb := Lib.hid hvb
  have hrm := Lib.hid hvm
  clear hvb hvm
  by_cases hl : b.length ≤ 200
  · have hl' : decide (200 < b.length) = false := decide_eq_false (by omega)
    have hl2 : ¬ (200 : Int) < (b.length : Int) := by omega
    by_cases hm : m.length ≤ 200
    · have hm' : decide (200 < m.length) = false := decide_eq_false (by omega)
      have hm2 : ¬ (200 : Int) < (m.length : Int) := by omega
      obtain ⟨ts, r, e, hb, hbig, hal, hre⟩ := Frm.all_spec b
      obtain ⟨ts2, r2, e2, hb2, _, hal2, _⟩ := Frm.all_spec (r ++ m)
      have hw := Frm.all_whole ts hbig
      have hbm : b ++ m = Frm.framesOf ts ++ (r ++ m) := by rw [hb, List.append_assoc]
      have hboth := Frm.all_frames ts hbig (r ++ m)
      rw [← hbm, hal2] at hboth
      dsimp only at hboth
      have hfl := Frm.frames_len ts
      have hfl2 := Frm.frames_len ts2
      have hbl := congrArg List.length hb
      have hbl2 := congrArg List.length hb2
      rw [List.length_append] at hbl hbl2
      rw [List.length_append] at hbl2
      have htake : b.take (Frm.framesOf ts).length = Frm.framesOf ts := by rw [hb]; exact List.take_left
      have hEN : (e = 0 ∧ (Frm.framesOf ts).length = b.length) ∨ (¬ e = 0 ∧ ¬ (Frm.framesOf ts).length = b.length) := by
        rcases hre with ⟨rfl, h⟩ | ⟨h1, _, h3⟩
        · exact .inl ⟨h, by rw [hbl]; simp⟩
        · refine .inr ⟨h3, fun h => h1 (List.eq_nil_of_length_eq_zero (by omega))⟩
      have hall := fun W h => hA (.slice pb b.length cb) b W (by omega) h
      have hwhole := fun V W h => hA V (Frm.framesOf ts) W (by omega) h
      have hb0 := fun V W h => hA V (b ++ m) W (by simp; omega) h
      rw [hal] at hall
      rw [hw] at hwhole
      rw [hboth] at hb0
      obtain ⟨K, hK⟩ : ∃ K, (Frm.framesOf ts).length = K := ⟨_, rfl⟩
      obtain ⟨K2, hK2⟩ : ∃ K, (Frm.framesOf ts2).length = K := ⟨_, rfl⟩
      obtain ⟨G, hG⟩ : ∃ G, Frm.framesOf ts = G := ⟨_, rfl⟩
      have htk := fun (W : World) (h : RBytes W (.slice pb b.length cb) b) => bytes_takeN h K (by omega)
      rw [hK] at hall hwhole hb0 hEN htake hfl hbl
      rw [hK2] at hb0 hfl2 hbl2
      rw [hG] at hwhole htake
      rw [htake] at htk
      obtain ⟨VS, hVS⟩ : ∃ VS, ts ++ ts2 = VS := ⟨_, rfl⟩
      rw [hVS] at hb0
      have hVl : ts.length ≤ VS.length := by rw [← hVS]; simp
      have hVt : VS.take ts.length = ts := by rw [← hVS]; exact List.take_left
      have hst := fun (W : World) (q : Option Addr) (c : Nat) (h : SR W (.slice q VS.length c) VS) => (show SR W (.slice q ts.length c) ts by have h2 := sr_take h ts.length hVl; rw [hVt] at h2; exact h2)
      obtain ⟨A, hAA⟩ : ∃ A, [] ++ b ++ m = A := ⟨_, rfl⟩
      have hbA : b ++ m = A := by rw [← hAA]; rfl
      rw [hbA] at hb0
      unfold TookAll at hall hwhole hb0
      dsimp only at hall hwhole hb0
      have hKb : K ≤ b.length := by omega
      have k1 : decide (b.length < K) = false := decide_eq_false (by omega)
      have k1' : ¬ (b.length : Int) < (K : Int) := by omega
      have k2 : ¬ (K : Int) < 0 := by omega
      have k3 : (K : Int) ≤ (K : Int) + (K2 : Int) := by omega
      have k4 : decide (ts.length ≤ VS.length) = true := decide_eq_true hVl
      have k5 : (ts.length : Int) ≤ (VS.length : Int) := by omega
      have k6 : K + K2 ≤ 400 := by omega
      replace hall := Lib.hid hall
      replace hwhole := Lib.hid hwhole
      have hboth' := Lib.hid hb0
      replace htk := Lib.hid htk
      replace hst := Lib.hid hst
      have hA2 := Lib.hid hAA
      clear hb hbig hal hre hb2 hal2 hw hbm hboth htake hb0 hK hK2 hG hVS hVt hAA hbA hbl hbl2 hfl2 hP hT hR hA
      have hboth := hboth'
      have hA := hA2
      clear hboth' hA2
      rcases hEN with ⟨rfl, hkb⟩ | ⟨he, hkb⟩
      · have x1 : ((K : Int) == (b.length : Int)) = true := beq_iff_eq.2 (by omega)
        replace hkb := Lib.hid hkb
        go_enter Try.func6, Try.ntmps6
        go_wp2_with fail
        refine (hawake.out _).mono ?_
        rintro e w1 ⟨rfl, q1⟩
        replace hrb := Lib.hid (bytes_below hrb.out q1)
        replace hrm := Lib.hid (bytes_below hrm.out q1)
        have bq := Lib.hid q1
        clear q1
        go_wp2_with fail
        refine (hall.out _ hrb.out).mono ?_
        rintro e w2 ⟨v_t, rfl, t, q2⟩
        obtain ⟨p_t, c_t, rfl⟩ := sr_form t
        replace t := Lib.hid t
        replace hrb := Lib.hid (bytes_below hrb.out q2)
        replace hrm := Lib.hid (bytes_below hrm.out q2)
        replace bq := Lib.hid (below_on bq.out q2)
        clear q2
        have rtk := Lib.hid (htk.out _ hrb.out)
        go_wp2_with fail
        refine (hwhole.out _ _ rtk.out).mono ?_
        rintro e w3 ⟨v_u, rfl, u, q3⟩
        obtain ⟨p_u, c_u, rfl⟩ := sr_form u
        replace u := Lib.hid u
        replace hrb := Lib.hid (bytes_below hrb.out q3)
        replace hrm := Lib.hid (bytes_below hrm.out q3)
        replace t := Lib.hid (sr_below t.out q3)
        replace bq := Lib.hid (below_on bq.out q3)
        clear q3
        clear rtk
        have e1 := Lib.hid (ownB_made w3.heap.size w3 w3.heap.size rfl (Nat.le_refl _))
        have g1 := Lib.hid (below_new w3 (.cells #[] 5))
        have s1 := Lib.hid (bytes_below hrb.out g1.out)
        go_upto_region 8 with (fail)
        go_upto_region 9 with (at_builtin; refine wpList_append_src rfl _ _ 23 rfl w3.heap.size 5 i0 (.int .u8 0) 1 Try.underlying23 hi hz0 hz1 hz2 rfl _ _ _ rfl e1.out _ _ rfl (bytes_src s1.out) (bytes_oneCell _) (by simp only [List.length_append, List.length_take, List.length_drop, List.length_cons, List.length_nil, List.length_singleton, Lib.byteCells_length]; unfold maxLen; omega) (by simp only [List.length_append, List.length_take, List.length_drop, List.length_cons, List.length_nil, List.length_singleton, Lib.byteCells_length]; omega) g1.out.size ?_; intro v4 w4 ho4 hg4; have o4 := Lib.hid (ownB_of_row (l := [] ++ b) ho4 (by (try simp [Lib.byteCells]); try omega) (by simp [Lib.byteCells])); have b4 := Lib.hid (below_row g1.out hg4 g1.out.size e1.out (Nat.le_refl _)); clear ho4 hg4)
        have s4 := Lib.hid (bytes_below hrm.out b4.out)
        go_upto_region 10 with (at_builtin; refine wpList_append_src rfl _ _ 23 rfl w3.heap.size 5 i0 (.int .u8 0) 1 Try.underlying23 hi hz0 hz1 hz2 rfl _ _ _ rfl o4.out _ _ rfl (bytes_src s4.out) (bytes_oneCell _) (by simp only [List.length_append, List.length_take, List.length_drop, List.length_cons, List.length_nil, List.length_singleton, Lib.byteCells_length]; unfold maxLen; omega) (by simp only [List.length_append, List.length_take, List.length_drop, List.length_cons, List.length_nil, List.length_singleton, Lib.byteCells_length]; omega) b4.out.size ?_; intro v5 w5 ho5 hg5; have o5 := Lib.hid (ownB_of_row (l := ([] ++ b) ++ m) ho5 (by (try simp [Lib.byteCells]); try omega) (by simp [Lib.byteCells])); have b5 := Lib.hid (below_row b4.out hg5 b4.out.size o4.out (Nat.le_refl _)); clear ho5 hg5)
        rw [hA.out] at o5
        have rall := Lib.hid (bytes_of_own o5.out)
        obtain ⟨pa, ca, rfl⟩ := bytes_form rall.out
        replace t := Lib.hid (sr_below t.out b5.out)
        replace u := Lib.hid (sr_below u.out b5.out)
        replace bq := Lib.hid (below_on bq.out b5.out)
        clear e1 g1 s1 o4 b4 s4 o5 b5 hrb hrm
        go_wp2_with fail
        refine (hboth.out _ _ rall.out).mono ?_
        rintro e w6 ⟨v_v, rfl, v, q6⟩
        obtain ⟨p_v, c_v, rfl⟩ := sr_form v
        replace v := Lib.hid v
        replace t := Lib.hid (sr_below t.out q6)
        replace u := Lib.hid (sr_below u.out q6)
        replace bq := Lib.hid (below_on bq.out q6)
        clear q6
        have vt := Lib.hid (hst.out _ _ _ v.out)
        have vcap := sr_cap v.out
        clear rall
        go_wp2_with fail
        refine (texts_self _ _ ts _ (by omega) t.out u.out).mono ?_
        rintro e w7 ⟨rfl, q7⟩
        replace t := Lib.hid (sr_below t.out q7)
        replace vt := Lib.hid (sr_below vt.out q7)
        replace bq := Lib.hid (below_on bq.out q7)
        clear q7 u
        go_wp2_with fail
        refine (texts_self _ _ ts _ (by omega) vt.out t.out).mono ?_
        rintro e w8 ⟨rfl, q8⟩
        replace bq := Lib.hid (below_on bq.out q8)
        clear q8
        go_wp2_with fail
        go_ret
        exact ⟨rfl, bq.out⟩
      · have x1 : ((K : Int) == (b.length : Int)) = false := beq_eq_false_iff_ne.2 (by omega)
        have x2 : (e == 0) = false := beq_eq_false_iff_ne.2 he
        clear hkb
        replace he := Lib.hid he
        go_enter Try.func6, Try.ntmps6
        go_wp2_with fail
        refine (hawake.out _).mono ?_
        rintro e w1 ⟨rfl, q1⟩
        replace hrb := Lib.hid (bytes_below hrb.out q1)
        replace hrm := Lib.hid (bytes_below hrm.out q1)
        have bq := Lib.hid q1
        clear q1
        go_wp2_with fail
        refine (hall.out _ hrb.out).mono ?_
        rintro e w2 ⟨v_t, rfl, t, q2⟩
        obtain ⟨p_t, c_t, rfl⟩ := sr_form t
        replace t := Lib.hid t
        replace hrb := Lib.hid (bytes_below hrb.out q2)
        replace hrm := Lib.hid (bytes_below hrm.out q2)
        replace bq := Lib.hid (below_on bq.out q2)
        clear q2
        have rtk := Lib.hid (htk.out _ hrb.out)
        go_wp2_with fail
        refine (hwhole.out _ _ rtk.out).mono ?_
        rintro e w3 ⟨v_u, rfl, u, q3⟩
        obtain ⟨p_u, c_u, rfl⟩ := sr_form u
        replace u := Lib.hid u
        replace hrb := Lib.hid (bytes_below hrb.out q3)
        replace hrm := Lib.hid (bytes_below hrm.out q3)
        replace t := Lib.hid (sr_below t.out q3)
        replace bq := Lib.hid (below_on bq.out q3)
        clear q3
        clear rtk
        have e1 := Lib.hid (ownB_made w3.heap.size w3 w3.heap.size rfl (Nat.le_refl _))
        have g1 := Lib.hid (below_new w3 (.cells #[] 5))
        have s1 := Lib.hid (bytes_below hrb.out g1.out)
        go_upto_region 8 with (fail)
        go_upto_region 9 with (at_builtin; refine wpList_append_src rfl _ _ 23 rfl w3.heap.size 5 i0 (.int .u8 0) 1 Try.underlying23 hi hz0 hz1 hz2 rfl _ _ _ rfl e1.out _ _ rfl (bytes_src s1.out) (bytes_oneCell _) (by simp only [List.length_append, List.length_take, List.length_drop, List.length_cons, List.length_nil, List.length_singleton, Lib.byteCells_length]; unfold maxLen; omega) (by simp only [List.length_append, List.length_take, List.length_drop, List.length_cons, List.length_nil, List.length_singleton, Lib.byteCells_length]; omega) g1.out.size ?_; intro v4 w4 ho4 hg4; have o4 := Lib.hid (ownB_of_row (l := [] ++ b) ho4 (by (try simp [Lib.byteCells]); try omega) (by simp [Lib.byteCells])); have b4 := Lib.hid (below_row g1.out hg4 g1.out.size e1.out (Nat.le_refl _)); clear ho4 hg4)
        have s4 := Lib.hid (bytes_below hrm.out b4.out)
        go_upto_region 10 with (at_builtin; refine wpList_append_src rfl _ _ 23 rfl w3.heap.size 5 i0 (.int .u8 0) 1 Try.underlying23 hi hz0 hz1 hz2 rfl _ _ _ rfl o4.out _ _ rfl (bytes_src s4.out) (bytes_oneCell _) (by simp only [List.length_append, List.length_take, List.length_drop, List.length_cons, List.length_nil, List.length_singleton, Lib.byteCells_length]; unfold maxLen; omega) (by simp only [List.length_append, List.length_take, List.length_drop, List.length_cons, List.length_nil, List.length_singleton, Lib.byteCells_length]; omega) b4.out.size ?_; intro v5 w5 ho5 hg5; have o5 := Lib.hid (ownB_of_row (l := ([] ++ b) ++ m) ho5 (by (try simp [Lib.byteCells]); try omega) (by simp [Lib.byteCells])); have b5 := Lib.hid (below_row b4.out hg5 b4.out.size o4.out (Nat.le_refl _)); clear ho5 hg5)
        rw [hA.out] at o5
        have rall := Lib.hid (bytes_of_own o5.out)
        obtain ⟨pa, ca, rfl⟩ := bytes_form rall.out
        replace t := Lib.hid (sr_below t.out b5.out)
        replace u := Lib.hid (sr_below u.out b5.out)
        replace bq := Lib.hid (below_on bq.out b5.out)
        clear e1 g1 s1 o4 b4 s4 o5 b5 hrb hrm
        go_wp2_with fail
        refine (hboth.out _ _ rall.out).mono ?_
        rintro e w6 ⟨v_v, rfl, v, q6⟩
        obtain ⟨p_v, c_v, rfl⟩ := sr_form v
        replace v := Lib.hid v
        replace t := Lib.hid (sr_below t.out q6)
        replace u := Lib.hid (sr_below u.out q6)
        replace bq := Lib.hid (below_on bq.out q6)
        clear q6
        have vt := Lib.hid (hst.out _ _ _ v.out)
        have vcap := sr_cap v.out
        clear rall
        go_wp2_with fail
        refine (texts_self _ _ ts _ (by omega) t.out u.out).mono ?_
        rintro e w7 ⟨rfl, q7⟩
        replace t := Lib.hid (sr_below t.out q7)
        replace vt := Lib.hid (sr_below vt.out q7)
        replace bq := Lib.hid (below_on bq.out q7)
        clear q7 u
        go_wp2_with fail
        refine (texts_self _ _ ts _ (by omega) vt.out t.out).mono ?_
        rintro e w8 ⟨rfl, q8⟩
        replace bq := Lib.hid (below_on bq.out q8)
        clear q8
        go_wp2_with fail
        go_ret
        exact ⟨rfl, bq.out⟩
    · have hm' : decide (200 < m.length) = true := decide_eq_true (by omega)
      have hm2 : (200 : Int) < (m.length : Int) := by omega
      clear hP hT hR hA
      go_enter Try.func6, Try.ntmps6
      go_wp2_with fail
      refine (hawake.out _).mono ?_
      rintro e w1 ⟨rfl, q1⟩
      go_wp2_with fail
      go_ret
      exact ⟨rfl, q1⟩
  · have hl' : decide (200 < b.length) = true := decide_eq_true (by omega)
    have hl2 : (200 : Int) < (b.length : Int) := by omega
    clear hP hT hR hA
    go_enter Try.func6, Try.ntmps6
    go_wp2_with fail
    refine (hawake.out _).mono ?_
    rintro e w1 ⟨rfl, q1⟩
    go_wp2_with fail
    go_ret
    exact ⟨rfl, q1⟩

end Go.Proofs.Ytconccgfhdmafaa
