/- Layer 7: the stable sort's parts over rows of places: two rows that are in order, one behind the other, become one, however long they are. -/
import Derived.Test.YtkhjkodeolaemaaDoorSwA4
import Derived.Deep.DeepCutAuto
namespace Go.Proofs.YtkhjkodeolaemaaDoor
set_option linter.unusedSimpArgs false
set_option linter.unusedVariables false
open Go.Shelf Go.RowKit Go.Lib Go.Sort
open Stb
variable {P : Program} {k : Nat}

theorem st_move {a mid x y : Nat} {d1 d2 : Array El} (p : PermIn a mid d1 d2) (hx : mid ≤ x) (h : St d1 x y) : St d2 x y := fun i j h1 h2 h3 => by
  rw [p.2.1 i (Or.inr (by omega)), p.2.1 j (Or.inr (by omega))]
  exact h i j h1 h2 h3
theorem ah_move {a mid e b : Nat} {d1 d2 : Array El} (p : PermIn a mid d1 d2) (h : Ah d1 mid e b) : Ah d2 mid e b := fun i j h1 h2 h3 h4 => by
  rw [p.2.1 i (Or.inr (by omega)), p.2.1 j (Or.inr (by omega))]
  exact h i j h1 h2 h3 h4

set_option maxHeartbeats 16000000 in
set_option maxRecDepth 1000000 in
theorem merge_mid (L : Prg P k) (enc : El → List Value) (cf : El → El → Int) (hk : ∀ x y, cf x y < 0 ↔ KL x y) (g : Nat) (cb : Array Value) (blk off cap a m b n : Nat) (d0 d : Array El) (w0 w : World)
    (eg : ∀ args w, (callFunc g args).run P w = .ok (.enter g args) w) (hcmp : CmpLays P g cb enc k cf blk off d0.size w0)
    (R : RP enc k w0 blk off d0) (hs : d0.size = d.size) (S : SP enc k w0 blk off d w) (ham1 : a + 1 < m) (hmb1 : m + 1 < b) (hb : b ≤ d.size) (hsz : d.size < 4611686018427387904)
    (h1 : St d a m) (h2 : St d m b) (ha : Ah d a m b) (hn : b - a ≤ n + 1) (ih : Merges P k enc g cb blk off cap d0 w0 n) :
    Calls P 57 #[.slice (some ⟨blk, off, none⟩) d.size cap, .int .i64 a, .int .i64 m, .int .i64 b, .func (.func g) #[] cb] w
      (Rowed enc k w0 blk off fun d' => St d' a b ∧ PermIn a b d d') := by
  have mixed := L.mixed; have t0 := L.t0; have a0 := L.a0; have z0 := L.z0; have v0 := L.v0; have t3 := L.t3; have a3 := L.a3; have z3 := L.z3; have v3 := L.v3; have t4 := L.t4; have a4 := L.a4; have z4 := L.z4; have v4 := L.v4; have tU := L.tU; have tS := L.tS; have aS := L.aS; have zS := L.zS; have vS := L.vS; have tF := L.tF; have aF := L.aF; have zF := L.zF; have vF := L.vF; have aE := L.aE; have zE := L.zE; have eSw := L.eSw; have eRo := L.eRo; have eIn := L.eIn; have eSy := L.eSy; have eSt := L.eSt
  have S0 : Aside (SP enc k w0 blk off d w) := S
  have HC : Aside _ := hcmp
  have HK : Aside _ := hk
  have IH : Aside _ := ih
  have L0 : Aside _ := L
  have R0 : Aside _ := R
  have HO : Aside (St d a m ∧ St d m b ∧ Ah d a m b) := ⟨h1, h2, ha⟩
  have ham : a < m := by omega
  have hmb : m < b := by omega
  have hma : ((m : Int) - (a : Int) == 1) = false := beq_eq_false_iff_ne.2 (by omega)
  have hbm : ((b : Int) - (m : Int) == 1) = false := beq_eq_false_iff_ne.2 (by omega)
  obtain ⟨mid, hmid0⟩ : ∃ mid, (a + b) / 2 = mid := ⟨_, rfl⟩
  have hm1 : a < mid := by omega
  have hm2 : mid < b := by omega
  have hm3 : a + b ≤ mid + mid + 1 := by omega
  have hm4 : mid + mid ≤ a + b := by omega
  have ehz : ((a : Int) + (b : Int)) / 2 = (mid : Int) := by omega
  clear S hcmp hk ih h1 h2 ha hmid0
  go_enter L.fSy, Tryd.ntmps57
  clear L
  go_upto_if 140 with (fail)
  go_cut [20, 21] (fun vs vr wx => ∃ s0 r0 : Nat, vs = .int .i64 s0 ∧ vr = .int .i64 r0 ∧ a ≤ s0 ∧ s0 ≤ r0 ∧ r0 ≤ m ∧ r0 ≤ mid ∧ mid + m ≤ b + s0 ∧ (s0 = a ∨ mid + m = b + s0) ∧ (r0 = m ∨ r0 = mid) ∧ Aside (SP enc k w0 blk off d wx))
  case first =>
    by_cases hmm : mid < m
    · have hmz : (mid : Int) < (m : Int) := by omega
      have hmB : decide ((m : Int) > (mid : Int)) = true := decide_eq_true hmz
      go_wp2_with fail
      go_meet
      exact ⟨mid + m - b, mid, by rw [show ((mid + m - b : Nat) : Int) = (mid : Int) + (m : Int) - (b : Int) by omega], rfl, by omega, by omega, by omega, by omega, by omega, by omega, by omega, S0⟩
    · have hmz : ¬ (mid : Int) < (m : Int) := by omega
      have hmB : decide ((m : Int) > (mid : Int)) = false := decide_eq_false hmz
      go_wp2_with fail
      go_meet
      exact ⟨a, m, rfl, rfl, by omega, by omega, by omega, by omega, by omega, by omega, by omega, S0⟩
  case rest =>
    clear S0
    obtain ⟨s0, r0, rfl, rfl, q1, q2, q3, q4, q5, q6, q7, S0⟩ := hcut
    go_wp2
    go_loopg [20, 21] (r0 - s0) (fun g1 vi vj wr => ∃ (s r : Nat), vi = .int .i64 s ∧ vj = .int .i64 r ∧ s0 ≤ s ∧ s ≤ r ∧ r ≤ r0 ∧ r - s ≤ g1 ∧ Aside (SP enc k w0 blk off d wr) ∧ Aside ((s = s0 ∨ ¬ KL d[mid + m - s]! d[s - 1]!) ∧ (r = r0 ∨ KL d[mid + m - 1 - r]! d[r]!)))
    case atStart => exact ⟨s0, r0, rfl, rfl, Nat.le_refl _, q2, Nat.le_refl _, Nat.le_refl _, S0, ⟨Or.inl rfl, Or.inl rfl⟩⟩
    case round =>
      clear S0
      obtain ⟨s, r, rfl, rfl, hss, hsr, hrr, hg1, S1, V1⟩ := hrel
      by_cases hlt : s < r
      · have hltz : (s : Int) < (r : Int) := by omega
        obtain ⟨c, hc0⟩ : ∃ c, (s + r) / 2 = c := ⟨_, rfl⟩
        have hc1 : s ≤ c := by omega
        have hc2 : c < r := by omega
        have ehc : ((s : Int) + (r : Int)) / 2 = (c : Int) := by omega
        clear hc0
        obtain ⟨x, hx0⟩ : ∃ x, mid + m - 1 - c = x := ⟨_, rfl⟩
        have exz : (mid : Int) + (m : Int) - 1 - (c : Int) = (x : Int) := by omega
        have hxd : x < d.size := by omega
        by_cases hq : KL d[x]! d[c]!
        · have HQ : Aside (KL d[mid + m - 1 - c]! d[c]!) := by rw [← hx0] at hq; exact hq
          clear hx0
          have eea : ((x : Int)).toNat = x := by omega
          have pea : (0 : Int) ≤ (x : Int) := by omega
          have bea : (x : Int) < (d.size : Int) := by omega
          have rea : IntKind.i64.wrap ((x : Int)) = (x : Int) := by rw [IntKind.wrap_i64]; omega
          have eeb : ((c : Int)).toNat = c := by omega
          have peb : (0 : Int) ≤ (c : Int) := by omega
          have beb : (c : Int) < (d.size : Int) := by omega
          have reb : IntKind.i64.wrap ((c : Int)) = (c : Int) := by rw [IntKind.wrap_i64]; omega
          obtain ⟨xa, hxa⟩ : ∃ zz, zz = d[x]! := ⟨_, rfl⟩
          obtain ⟨xb, hxb⟩ : ∃ zz, zz = d[c]! := ⟨_, rfl⟩
          have l1 := S1.out.ld R (by omega) P (x) (by omega)
          have l2 := S1.out.ld R (by omega) P (c) (by omega)
          rw [← hxa] at l1
          rw [← hxb] at l2
          have hc := S1.out.cmp HC.out (by omega) xa xb
          have hv : cf xa xb < 0 := by rw [hxa, hxb]; exact (HK.out _ _).2 hq
          have hd : decide (cf xa xb < 0) = true := decide_eq_true hv
          clear hxa hxb
          go_wp2_with fail
          go_quiet_grown (first | (go_at_fn g; refine Calls.grown_of (hc _ _)))
          have S2 : Aside (SP enc k w0 blk off d (grow (wr.drewN nq) osq)) := S1.out.grown nq osq
          clear l1 l2 hc S1
          generalize grow (wr.drewN nq) osq = w2 at S2 ⊢
          clear nq osq
          clear hq
          go_wp2
          go_roundg (c - s)
          case measure => omega
          case rel => exact ⟨s, c, rfl, rfl, hss, hc1, by omega, Nat.le_refl _, S2, ⟨V1.out.1, Or.inr HQ.out⟩⟩
        · have HQ : Aside (¬ KL d[mid + m - 1 - c]! d[c]!) := by rw [← hx0] at hq; exact hq
          clear hx0
          have eea : ((x : Int)).toNat = x := by omega
          have pea : (0 : Int) ≤ (x : Int) := by omega
          have bea : (x : Int) < (d.size : Int) := by omega
          have rea : IntKind.i64.wrap ((x : Int)) = (x : Int) := by rw [IntKind.wrap_i64]; omega
          have eeb : ((c : Int)).toNat = c := by omega
          have peb : (0 : Int) ≤ (c : Int) := by omega
          have beb : (c : Int) < (d.size : Int) := by omega
          have reb : IntKind.i64.wrap ((c : Int)) = (c : Int) := by rw [IntKind.wrap_i64]; omega
          obtain ⟨xa, hxa⟩ : ∃ zz, zz = d[x]! := ⟨_, rfl⟩
          obtain ⟨xb, hxb⟩ : ∃ zz, zz = d[c]! := ⟨_, rfl⟩
          have l1 := S1.out.ld R (by omega) P (x) (by omega)
          have l2 := S1.out.ld R (by omega) P (c) (by omega)
          rw [← hxa] at l1
          rw [← hxb] at l2
          have hc := S1.out.cmp HC.out (by omega) xa xb
          have hv : ¬ cf xa xb < 0 := by rw [hxa, hxb]; exact fun h => hq ((HK.out _ _).1 h)
          have hd : decide (cf xa xb < 0) = false := decide_eq_false hv
          clear hxa hxb
          go_wp2_with fail
          go_quiet_grown (first | (go_at_fn g; refine Calls.grown_of (hc _ _)))
          have S2 : Aside (SP enc k w0 blk off d (grow (wr.drewN nq) osq)) := S1.out.grown nq osq
          clear l1 l2 hc S1
          generalize grow (wr.drewN nq) osq = w2 at S2 ⊢
          clear nq osq
          clear hq
          go_wp2
          go_roundg (r - (c + 1))
          case measure => omega
          case rel => exact ⟨c + 1, r, by go_num, rfl, by omega, by omega, hrr, Nat.le_refl _, S2, ⟨Or.inr (by rw [show mid + m - (c + 1) = mid + m - 1 - c by omega, Nat.add_sub_cancel]; exact HQ.out), V1.out.2⟩⟩
      · obtain rfl : s = r := by omega
        have hltz : ¬ (s : Int) < (s : Int) := by omega
        obtain ⟨e, he0⟩ : ∃ e, mid + m - s = e := ⟨_, rfl⟩
        have ez : (mid : Int) + (m : Int) - (s : Int) = (e : Int) := by omega
        have hs1 : a ≤ s := by omega
        have hs2 : s ≤ m := by omega
        have he1 : m ≤ e := by omega
        have he2 : e ≤ b := by omega
        have hmid : s + (e - m) = mid := by omega
        have N1 : Aside (a < s → e < b → ¬ KL d[e]! d[s - 1]!) := fun x y => by
          rcases V1.out.1 with h | h
          · omega
          · rwa [he0] at h
        have N2 : Aside (s < m → m < e → KL d[e - 1]! d[s]!) := fun x y => by
          rcases V1.out.2 with h | h
          · omega
          · rwa [show mid + m - 1 - s = e - 1 by omega] at h
        clear V1
        by_cases c1 : s < m <;> by_cases c2 : m < e <;> by_cases c3 : a < s <;> by_cases c6 : e < b
        · have u1 : (s : Int) < (m : Int) := by omega
          have u2 : (m : Int) < (e : Int) := by omega
          have u3 : (a : Int) < (s : Int) := by omega
          have u4 : (s : Int) < (mid : Int) := by omega
          have u5 : (mid : Int) < (e : Int) := by omega
          have u6 : (e : Int) < (b : Int) := by omega
          have hcall := rotate_any L0.out enc blk off cap s m e d0 d w0 wr (.func (.func g) #[] cb) R0.out hs S1.out (by omega) (by omega) (by omega) (by omega)
          go_wp2_with (go_at_fn 65; refine hcall.mono ?_; rintro e1 w1 ⟨rfl, d1, T1, V2, P2⟩)
          have Z1 : d1.size = d.size := V2.1
          have T1 : Aside (SP enc k w0 blk off d1 w1) := T1
          have H : Aside _ := halves V2 (by omega) ham hmb hs1 hs2 he1 he2 hmid HO.out.1 HO.out.2.1 HO.out.2.2 N1.out N2.out
          have PP : Aside (PermIn a b d d1) := perm_sub P2 (by omega) (by omega) (by omega)
          clear hcall P2 V2
          have hcall := IH.out a s mid d1 w1 (by omega) (by omega) T1.out (by omega) (by omega) (by omega) H.out.1 H.out.2.1 H.out.2.2.1
          rw [Z1] at hcall
          go_wp2_with (go_at_fn 57; refine hcall.mono ?_; rintro e2 w2 ⟨rfl, d2, T2, X2, Q2⟩)
          have Z2 : d2.size = d.size := Q2.1.trans Z1
          have T2 : Aside (SP enc k w0 blk off d2 w2) := T2
          have X2 : Aside (St d2 a mid ∧ PermIn a mid d1 d2) := ⟨X2, Q2⟩
          clear hcall Q2
          have hcall := IH.out mid e b d2 w2 (by omega) (by omega) T2.out (by omega) (by omega) (by omega) (st_move X2.out.2 (by omega) (H.out.2.2.2.1)) (st_move X2.out.2 (by omega) (H.out.2.2.2.2.1)) (ah_move X2.out.2 H.out.2.2.2.2.2.1)
          rw [Z2] at hcall
          go_wp2_with (go_at_fn 57; refine hcall.mono ?_; rintro e3 w3 ⟨rfl, d3, T3, X3, Q3⟩)
          go_end0
          exact ⟨rfl, d3, T3, both (by omega) (by omega) (by omega) H.out.2.2.2.2.2.2 X2.out.2 Q3 X2.out.1 X3, perm_on PP.out (perm_on (perm_sub X2.out.2 (by omega) (by omega) (by omega)) (perm_sub Q3 (by omega) (by omega) (by omega)))⟩
        · have u1 : (s : Int) < (m : Int) := by omega
          have u2 : (m : Int) < (e : Int) := by omega
          have u3 : (a : Int) < (s : Int) := by omega
          have u4 : (s : Int) < (mid : Int) := by omega
          have u5 : (mid : Int) < (e : Int) := by omega
          have u6 : ¬ (e : Int) < (b : Int) := by omega
          have hcall := rotate_any L0.out enc blk off cap s m e d0 d w0 wr (.func (.func g) #[] cb) R0.out hs S1.out (by omega) (by omega) (by omega) (by omega)
          go_wp2_with (go_at_fn 65; refine hcall.mono ?_; rintro e1 w1 ⟨rfl, d1, T1, V2, P2⟩)
          have Z1 : d1.size = d.size := V2.1
          have T1 : Aside (SP enc k w0 blk off d1 w1) := T1
          have H : Aside _ := halves V2 (by omega) ham hmb hs1 hs2 he1 he2 hmid HO.out.1 HO.out.2.1 HO.out.2.2 N1.out N2.out
          have PP : Aside (PermIn a b d d1) := perm_sub P2 (by omega) (by omega) (by omega)
          clear hcall P2 V2
          have hcall := IH.out a s mid d1 w1 (by omega) (by omega) T1.out (by omega) (by omega) (by omega) H.out.1 H.out.2.1 H.out.2.2.1
          rw [Z1] at hcall
          go_wp2_with (go_at_fn 57; refine hcall.mono ?_; rintro e2 w2 ⟨rfl, d2, T2, X2, Q2⟩)
          have Z2 : d2.size = d.size := Q2.1.trans Z1
          have T2 : Aside (SP enc k w0 blk off d2 w2) := T2
          have X2 : Aside (St d2 a mid ∧ PermIn a mid d1 d2) := ⟨X2, Q2⟩
          clear hcall Q2
          go_wp2_with fail
          go_end0
          exact ⟨rfl, d2, T2.out, both (by omega) (by omega) (by omega) H.out.2.2.2.2.2.2 X2.out.2 (permIn_refl _ _ _) X2.out.1 (st_move X2.out.2 (by omega) (by have h := H.out.2.2.2.1; rwa [show e = b by omega] at h)), perm_on PP.out (perm_sub X2.out.2 (by omega) (by omega) (by omega))⟩
        · have u1 : (s : Int) < (m : Int) := by omega
          have u2 : (m : Int) < (e : Int) := by omega
          have u3 : ¬ (a : Int) < (s : Int) := by omega
          have u4 : (s : Int) < (mid : Int) := by omega
          have u5 : (mid : Int) < (e : Int) := by omega
          have u6 : (e : Int) < (b : Int) := by omega
          have hcall := rotate_any L0.out enc blk off cap s m e d0 d w0 wr (.func (.func g) #[] cb) R0.out hs S1.out (by omega) (by omega) (by omega) (by omega)
          go_wp2_with (go_at_fn 65; refine hcall.mono ?_; rintro e1 w1 ⟨rfl, d1, T1, V2, P2⟩)
          have Z1 : d1.size = d.size := V2.1
          have T1 : Aside (SP enc k w0 blk off d1 w1) := T1
          have H : Aside _ := halves V2 (by omega) ham hmb hs1 hs2 he1 he2 hmid HO.out.1 HO.out.2.1 HO.out.2.2 N1.out N2.out
          have PP : Aside (PermIn a b d d1) := perm_sub P2 (by omega) (by omega) (by omega)
          clear hcall P2 V2
          have Z2 : d1.size = d.size := Z1
          have X2 : Aside (St d1 a mid ∧ PermIn a mid d1 d1) := ⟨by have h := H.out.2.1; rwa [show s = a by omega] at h, permIn_refl _ _ _⟩
          have hcall := IH.out mid e b d1 w1 (by omega) (by omega) T1.out (by omega) (by omega) (by omega) (st_move X2.out.2 (by omega) (H.out.2.2.2.1)) (st_move X2.out.2 (by omega) (H.out.2.2.2.2.1)) (ah_move X2.out.2 H.out.2.2.2.2.2.1)
          rw [Z2] at hcall
          go_wp2_with (go_at_fn 57; refine hcall.mono ?_; rintro e3 w3 ⟨rfl, d3, T3, X3, Q3⟩)
          go_end0
          exact ⟨rfl, d3, T3, both (by omega) (by omega) (by omega) H.out.2.2.2.2.2.2 X2.out.2 Q3 X2.out.1 X3, perm_on PP.out (perm_on (perm_sub X2.out.2 (by omega) (by omega) (by omega)) (perm_sub Q3 (by omega) (by omega) (by omega)))⟩
        · have u1 : (s : Int) < (m : Int) := by omega
          have u2 : (m : Int) < (e : Int) := by omega
          have u3 : ¬ (a : Int) < (s : Int) := by omega
          have u4 : (s : Int) < (mid : Int) := by omega
          have u5 : (mid : Int) < (e : Int) := by omega
          have u6 : ¬ (e : Int) < (b : Int) := by omega
          have hcall := rotate_any L0.out enc blk off cap s m e d0 d w0 wr (.func (.func g) #[] cb) R0.out hs S1.out (by omega) (by omega) (by omega) (by omega)
          go_wp2_with (go_at_fn 65; refine hcall.mono ?_; rintro e1 w1 ⟨rfl, d1, T1, V2, P2⟩)
          have Z1 : d1.size = d.size := V2.1
          have T1 : Aside (SP enc k w0 blk off d1 w1) := T1
          have H : Aside _ := halves V2 (by omega) ham hmb hs1 hs2 he1 he2 hmid HO.out.1 HO.out.2.1 HO.out.2.2 N1.out N2.out
          have PP : Aside (PermIn a b d d1) := perm_sub P2 (by omega) (by omega) (by omega)
          clear hcall P2 V2
          have Z2 : d1.size = d.size := Z1
          have X2 : Aside (St d1 a mid ∧ PermIn a mid d1 d1) := ⟨by have h := H.out.2.1; rwa [show s = a by omega] at h, permIn_refl _ _ _⟩
          go_wp2_with fail
          go_end0
          exact ⟨rfl, d1, T1.out, both (by omega) (by omega) (by omega) H.out.2.2.2.2.2.2 X2.out.2 (permIn_refl _ _ _) X2.out.1 (st_move X2.out.2 (by omega) (by have h := H.out.2.2.2.1; rwa [show e = b by omega] at h)), perm_on PP.out (perm_sub X2.out.2 (by omega) (by omega) (by omega))⟩
        · have u1 : (s : Int) < (m : Int) := by omega
          have u2 : ¬ (m : Int) < (e : Int) := by omega
          have u3 : (a : Int) < (s : Int) := by omega
          have u4 : ¬ (s : Int) < (mid : Int) := by omega
          have u5 : (mid : Int) < (e : Int) := by omega
          have u6 : (e : Int) < (b : Int) := by omega
          have V2 : Via (rR s m e) d d := by rw [show e = m by omega]; exact rot_none d
          have H : Aside _ := halves V2 (by omega) ham hmb hs1 hs2 he1 he2 hmid HO.out.1 HO.out.2.1 HO.out.2.2 N1.out N2.out
          have PP : Aside (PermIn a b d d) := permIn_refl _ _ _
          have Z1 : d.size = d.size := rfl
          clear V2
          have Z2 : d.size = d.size := Z1
          have X2 : Aside (St d a mid ∧ PermIn a mid d d) := ⟨by have h := H.out.1; rwa [show s = mid by omega] at h, permIn_refl _ _ _⟩
          have hcall := IH.out mid e b d wr (by omega) (by omega) S1.out (by omega) (by omega) (by omega) (st_move X2.out.2 (by omega) (H.out.2.2.2.1)) (st_move X2.out.2 (by omega) (H.out.2.2.2.2.1)) (ah_move X2.out.2 H.out.2.2.2.2.2.1)
          go_wp2_with (go_at_fn 57; refine hcall.mono ?_; rintro e3 w3 ⟨rfl, d3, T3, X3, Q3⟩)
          go_end0
          exact ⟨rfl, d3, T3, both (by omega) (by omega) (by omega) H.out.2.2.2.2.2.2 X2.out.2 Q3 X2.out.1 X3, perm_on PP.out (perm_on (perm_sub X2.out.2 (by omega) (by omega) (by omega)) (perm_sub Q3 (by omega) (by omega) (by omega)))⟩
        · have u1 : (s : Int) < (m : Int) := by omega
          have u2 : ¬ (m : Int) < (e : Int) := by omega
          have u3 : (a : Int) < (s : Int) := by omega
          have u4 : ¬ (s : Int) < (mid : Int) := by omega
          have u5 : (mid : Int) < (e : Int) := by omega
          have u6 : ¬ (e : Int) < (b : Int) := by omega
          have V2 : Via (rR s m e) d d := by rw [show e = m by omega]; exact rot_none d
          have H : Aside _ := halves V2 (by omega) ham hmb hs1 hs2 he1 he2 hmid HO.out.1 HO.out.2.1 HO.out.2.2 N1.out N2.out
          have PP : Aside (PermIn a b d d) := permIn_refl _ _ _
          have Z1 : d.size = d.size := rfl
          clear V2
          have Z2 : d.size = d.size := Z1
          have X2 : Aside (St d a mid ∧ PermIn a mid d d) := ⟨by have h := H.out.1; rwa [show s = mid by omega] at h, permIn_refl _ _ _⟩
          go_wp2_with fail
          go_end0
          exact ⟨rfl, d, S1.out, both (by omega) (by omega) (by omega) H.out.2.2.2.2.2.2 X2.out.2 (permIn_refl _ _ _) X2.out.1 (st_move X2.out.2 (by omega) (by have h := H.out.2.2.2.1; rwa [show e = b by omega] at h)), perm_on PP.out (perm_sub X2.out.2 (by omega) (by omega) (by omega))⟩
        · exfalso; omega
        · exfalso; omega
        · have u1 : ¬ (s : Int) < (m : Int) := by omega
          have u2 : (m : Int) < (e : Int) := by omega
          have u3 : (a : Int) < (s : Int) := by omega
          have u4 : (s : Int) < (mid : Int) := by omega
          have u5 : ¬ (mid : Int) < (e : Int) := by omega
          have u6 : (e : Int) < (b : Int) := by omega
          have V2 : Via (rR s m e) d d := by rw [show s = m by omega]; exact rot_none2 d (by omega)
          have H : Aside _ := halves V2 (by omega) ham hmb hs1 hs2 he1 he2 hmid HO.out.1 HO.out.2.1 HO.out.2.2 N1.out N2.out
          have PP : Aside (PermIn a b d d) := permIn_refl _ _ _
          have Z1 : d.size = d.size := rfl
          clear V2
          have hcall := IH.out a s mid d wr (by omega) (by omega) S1.out (by omega) (by omega) (by omega) H.out.1 H.out.2.1 H.out.2.2.1
          go_wp2_with (go_at_fn 57; refine hcall.mono ?_; rintro e2 w2 ⟨rfl, d2, T2, X2, Q2⟩)
          have Z2 : d2.size = d.size := Q2.1
          have T2 : Aside (SP enc k w0 blk off d2 w2) := T2
          have X2 : Aside (St d2 a mid ∧ PermIn a mid d d2) := ⟨X2, Q2⟩
          clear hcall Q2
          go_wp2_with fail
          go_end0
          exact ⟨rfl, d2, T2.out, both (by omega) (by omega) (by omega) H.out.2.2.2.2.2.2 X2.out.2 (permIn_refl _ _ _) X2.out.1 (st_move X2.out.2 (by omega) (by have h := H.out.2.2.2.2.1; rwa [show e = mid by omega] at h)), perm_on PP.out (perm_sub X2.out.2 (by omega) (by omega) (by omega))⟩
        · exfalso; omega
        · have u1 : ¬ (s : Int) < (m : Int) := by omega
          have u2 : (m : Int) < (e : Int) := by omega
          have u3 : ¬ (a : Int) < (s : Int) := by omega
          have u4 : (s : Int) < (mid : Int) := by omega
          have u5 : ¬ (mid : Int) < (e : Int) := by omega
          have u6 : (e : Int) < (b : Int) := by omega
          have V2 : Via (rR s m e) d d := by rw [show s = m by omega]; exact rot_none2 d (by omega)
          have H : Aside _ := halves V2 (by omega) ham hmb hs1 hs2 he1 he2 hmid HO.out.1 HO.out.2.1 HO.out.2.2 N1.out N2.out
          have PP : Aside (PermIn a b d d) := permIn_refl _ _ _
          have Z1 : d.size = d.size := rfl
          clear V2
          have Z2 : d.size = d.size := Z1
          have X2 : Aside (St d a mid ∧ PermIn a mid d d) := ⟨by have h := H.out.2.1; rwa [show s = a by omega] at h, permIn_refl _ _ _⟩
          go_wp2_with fail
          go_end0
          exact ⟨rfl, d, S1.out, both (by omega) (by omega) (by omega) H.out.2.2.2.2.2.2 X2.out.2 (permIn_refl _ _ _) X2.out.1 (st_move X2.out.2 (by omega) (by have h := H.out.2.2.2.2.1; rwa [show e = mid by omega] at h)), perm_on PP.out (perm_sub X2.out.2 (by omega) (by omega) (by omega))⟩
        · exfalso; omega
        · have u1 : ¬ (s : Int) < (m : Int) := by omega
          have u2 : ¬ (m : Int) < (e : Int) := by omega
          have u3 : (a : Int) < (s : Int) := by omega
          have u4 : ¬ (s : Int) < (mid : Int) := by omega
          have u5 : ¬ (mid : Int) < (e : Int) := by omega
          have u6 : (e : Int) < (b : Int) := by omega
          have V2 : Via (rR s m e) d d := by rw [show e = m by omega]; exact rot_none d
          have H : Aside _ := halves V2 (by omega) ham hmb hs1 hs2 he1 he2 hmid HO.out.1 HO.out.2.1 HO.out.2.2 N1.out N2.out
          have PP : Aside (PermIn a b d d) := permIn_refl _ _ _
          have Z1 : d.size = d.size := rfl
          clear V2
          have Z2 : d.size = d.size := Z1
          have X2 : Aside (St d a mid ∧ PermIn a mid d d) := ⟨by have h := H.out.1; rwa [show s = mid by omega] at h, permIn_refl _ _ _⟩
          go_wp2_with fail
          go_end0
          exact ⟨rfl, d, S1.out, both (by omega) (by omega) (by omega) H.out.2.2.2.2.2.2 X2.out.2 (permIn_refl _ _ _) X2.out.1 (st_move X2.out.2 (by omega) (by have h := H.out.2.2.2.2.1; rwa [show e = mid by omega] at h)), perm_on PP.out (perm_sub X2.out.2 (by omega) (by omega) (by omega))⟩
        · exfalso; omega
        · exfalso; omega
        · exfalso; omega

theorem merge_any (L : Prg P k) (enc : El → List Value) (cf : El → El → Int) (hk : ∀ x y, cf x y < 0 ↔ KL x y) (g : Nat) (cb : Array Value) (blk off cap : Nat) (d0 : Array El) (w0 : World)
    (eg : ∀ args w, (callFunc g args).run P w = .ok (.enter g args) w) (hcmp : CmpLays P g cb enc k cf blk off d0.size w0)
    (R : RP enc k w0 blk off d0) (hsz : d0.size < 4611686018427387904) : ∀ n, Merges P k enc g cb blk off cap d0 w0 n
  | 0 => fun a m b d w hn hs S h1 h2 h3 _ _ _ => by omega
  | n + 1 => fun a m b d w hn hs S h1 h2 h3 s1 s2 ha => by
    by_cases e1 : m = a + 1
    · subst e1
      have h := merge_one L enc cf hk g cb blk off cap a b d0 d w0 w eg hcmp R hs S (by omega) h3 (by omega) s2 ha
      rwa [show (a : Int) + 1 = ((a + 1 : Nat) : Int) by omega] at h
    · by_cases e2 : b = m + 1
      · subst e2
        have h := merge_last L enc cf hk g cb blk off cap a m d0 d w0 w eg hcmp R hs S (by omega) h3 (by omega) s1 ha
        rwa [show (m : Int) + 1 = ((m + 1 : Nat) : Int) by omega] at h
      · exact merge_mid L enc cf hk g cb blk off cap a m b n d0 d w0 w eg hcmp R hs S (by omega) (by omega) h3 (by omega) s1 s2 ha hn (merge_any L enc cf hk g cb blk off cap d0 w0 eg hcmp R hsz n)
end Go.Proofs.YtkhjkodeolaemaaDoor
