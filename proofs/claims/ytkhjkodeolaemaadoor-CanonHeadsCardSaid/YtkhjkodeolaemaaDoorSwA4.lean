/- Layer 7: the stable sort's parts over rows of places: two rows that are in order, one behind the other, become one; the last one alone. -/
import Derived.Test.YtkhjkodeolaemaaDoorSwA3
namespace Go.Proofs.YtkhjkodeolaemaaDoor
set_option linter.unusedSimpArgs false
set_option linter.unusedVariables false
open Go.Shelf Go.RowKit Go.Lib Go.Sort
open Stb
variable {P : Program} {k : Nat}

set_option maxHeartbeats 8000000 in
set_option maxRecDepth 1000000 in
theorem merge_last (L : Prg P k) (enc : El → List Value) (cf : El → El → Int) (hk : ∀ x y, cf x y < 0 ↔ KL x y) (g : Nat) (cb : Array Value) (blk off cap a m : Nat) (d0 d : Array El) (w0 w : World)
    (eg : ∀ args w, (callFunc g args).run P w = .ok (.enter g args) w) (hcmp : CmpLays P g cb enc k cf blk off d0.size w0)
    (R : RP enc k w0 blk off d0) (hs : d0.size = d.size) (S : SP enc k w0 blk off d w) (ham : a + 1 < m) (hb : m + 1 ≤ d.size) (hsz : d.size < 4611686018427387904)
    (h1 : St d a m) (ha : Ah d a m (m + 1)) :
    Calls P 57 #[.slice (some ⟨blk, off, none⟩) d.size cap, .int .i64 a, .int .i64 m, .int .i64 ((m : Int) + 1), .func (.func g) #[] cb] w
      (Rowed enc k w0 blk off fun d' => St d' a (m + 1) ∧ PermIn a (m + 1) d d') := by
  have mixed := L.mixed; have t0 := L.t0; have a0 := L.a0; have z0 := L.z0; have v0 := L.v0; have t3 := L.t3; have a3 := L.a3; have z3 := L.z3; have v3 := L.v3; have t4 := L.t4; have a4 := L.a4; have z4 := L.z4; have v4 := L.v4; have tU := L.tU; have tS := L.tS; have aS := L.aS; have zS := L.zS; have vS := L.vS; have tF := L.tF; have aF := L.aF; have zF := L.zF; have vF := L.vF; have aE := L.aE; have zE := L.zE; have eSw := L.eSw; have eRo := L.eRo; have eIn := L.eIn; have eSy := L.eSy; have eSt := L.eSt
  have S0 : Aside (SP enc k w0 blk off d w) := S
  have HC : Aside _ := hcmp
  have HK : Aside _ := hk
  have HO : Aside (St d a m ∧ Ah d a m (m + 1)) := ⟨h1, ha⟩
  clear S hcmp hk h1 ha
  have hm1 : (m : Int) + 1 - (m : Int) = 1 := by omega
  have hma : ((m : Int) - (a : Int) == 1) = false := beq_eq_false_iff_ne.2 (by omega)
  go_enter L.fSy, Tryd.ntmps57
  go_wp2
  go_loopg [14, 15] (m - a) (fun g1 vi vj wr => ∃ (i j : Nat), vi = .int .i64 i ∧ vj = .int .i64 j ∧ a ≤ i ∧ i ≤ j ∧ j ≤ m ∧ j - i ≤ g1 ∧ Aside (SP enc k w0 blk off d wr) ∧ Aside ((i = a ∨ ¬ KL d[m]! d[i - 1]!) ∧ (j = m ∨ KL d[m]! d[j]!)))
  case atStart => exact ⟨a, m, rfl, rfl, Nat.le_refl _, by omega, Nat.le_refl _, by omega, S0, ⟨Or.inl rfl, Or.inl rfl⟩⟩
  case round =>
    clear S0
    obtain ⟨i, j, rfl, rfl, hai, hij, hjb, hg1, S1, V1⟩ := hrel
    by_cases hlt : i < j
    · have hltz : (i : Int) < (j : Int) := by omega
      have eh : (((i + j) / 2 : Nat) : Int) = ((i : Int) + (j : Int)) / 2 := by omega
      obtain ⟨h, hh⟩ : ∃ h, (i + j) / 2 = h := ⟨_, rfl⟩
      have hh1 : i ≤ h := by omega
      have hh2 : h < j := by omega
      have ehz : ((i : Int) + (j : Int)) / 2 = (h : Int) := by omega
      clear eh
      by_cases hq : KL d[m]! d[h]!
      · have HQ : Aside (KL d[m]! d[h]!) := hq
        have eea : ((m : Int)).toNat = m := by omega
        have pea : (0 : Int) ≤ (m : Int) := by omega
        have bea : (m : Int) < (d.size : Int) := by omega
        have rea : IntKind.i64.wrap ((m : Int)) = (m : Int) := by rw [IntKind.wrap_i64]; omega
        have eeb : ((h : Int)).toNat = h := by omega
        have peb : (0 : Int) ≤ (h : Int) := by omega
        have beb : (h : Int) < (d.size : Int) := by omega
        have reb : IntKind.i64.wrap ((h : Int)) = (h : Int) := by rw [IntKind.wrap_i64]; omega
        obtain ⟨xa, hxa⟩ : ∃ zz, zz = d[m]! := ⟨_, rfl⟩
        obtain ⟨xb, hxb⟩ : ∃ zz, zz = d[h]! := ⟨_, rfl⟩
        have l1 := S1.out.ld R (by omega) P (m) (by omega)
        have l2 := S1.out.ld R (by omega) P (h) (by omega)
        rw [← hxa] at l1
        rw [← hxb] at l2
        have hc := S1.out.cmp HC.out (by omega) xa xb
        have hv : cf xa xb < 0 := by rw [hxa, hxb]; exact (HK.out _ _).2 hq
        have hd : decide (cf xa xb < 0) = true := decide_eq_true hv
        clear hxa hxb
        go_wp2_with fail
        go_quiet_grown (first | (go_at_fn g; refine Calls.grown_of (hc _ _)))
        have S2 : Aside (SP enc k w0 blk off d (grow (wr.drewN nq) osq)) := S1.out.grown nq osq
        clear l1 l2 hc S1
        generalize grow (wr.drewN nq) osq = w2 at S2 ⊢
        clear nq osq
        clear hq
        go_wp2
        go_roundg (h - i)
        case measure => omega
        case rel => exact ⟨i, h, rfl, rfl, hai, hh1, by omega, Nat.le_refl _, S2, ⟨V1.out.1, Or.inr HQ.out⟩⟩
      · have HQ : Aside (¬ KL d[m]! d[h]!) := hq
        have eea : ((m : Int)).toNat = m := by omega
        have pea : (0 : Int) ≤ (m : Int) := by omega
        have bea : (m : Int) < (d.size : Int) := by omega
        have rea : IntKind.i64.wrap ((m : Int)) = (m : Int) := by rw [IntKind.wrap_i64]; omega
        have eeb : ((h : Int)).toNat = h := by omega
        have peb : (0 : Int) ≤ (h : Int) := by omega
        have beb : (h : Int) < (d.size : Int) := by omega
        have reb : IntKind.i64.wrap ((h : Int)) = (h : Int) := by rw [IntKind.wrap_i64]; omega
        obtain ⟨xa, hxa⟩ : ∃ zz, zz = d[m]! := ⟨_, rfl⟩
        obtain ⟨xb, hxb⟩ : ∃ zz, zz = d[h]! := ⟨_, rfl⟩
        have l1 := S1.out.ld R (by omega) P (m) (by omega)
        have l2 := S1.out.ld R (by omega) P (h) (by omega)
        rw [← hxa] at l1
        rw [← hxb] at l2
        have hc := S1.out.cmp HC.out (by omega) xa xb
        have hv : ¬ cf xa xb < 0 := by rw [hxa, hxb]; exact fun h => hq ((HK.out _ _).1 h)
        have hd : decide (cf xa xb < 0) = false := decide_eq_false hv
        clear hxa hxb
        go_wp2_with fail
        go_quiet_grown (first | (go_at_fn g; refine Calls.grown_of (hc _ _)))
        have S2 : Aside (SP enc k w0 blk off d (grow (wr.drewN nq) osq)) := S1.out.grown nq osq
        clear l1 l2 hc S1
        generalize grow (wr.drewN nq) osq = w2 at S2 ⊢
        clear nq osq
        clear hq
        go_wp2
        go_roundg (j - (h + 1))
        case measure => omega
        case rel => exact ⟨h + 1, j, by go_num, rfl, by omega, by omega, hjb, Nat.le_refl _, S2, ⟨Or.inr (by simp only [Nat.add_sub_cancel]; exact HQ.out), V1.out.2⟩⟩
    · obtain rfl : i = j := by omega
      have hltz : ¬ (i : Int) < (i : Int) := by omega
      go_wp2
      go_loopg [17] (m - i) (fun g1 vk wr2 => ∃ (q : Nat) (dk : Array El), vk = .int .i64 q ∧ i ≤ q ∧ q ≤ m ∧ q - i ≤ g1 ∧ dk.size = d.size ∧ Aside (SP enc k w0 blk off dk wr2) ∧ Aside (Via (dR q m) d dk ∧ PermIn a (m + 1) d dk))
      case atStart => exact ⟨m, d, rfl, by omega, Nat.le_refl _, Nat.le_refl _, rfl, S1, ⟨via_down0 _ _, permIn_refl _ _ _⟩⟩
      case round =>
        clear S1
        obtain ⟨q, dk, rfl, hiq, hqm, hg2, hds, S1, V2⟩ := hrel
        by_cases hlt2 : i < q
        · have hltz2 : (i : Int) < (q : Int) := by omega
          obtain ⟨qp, rfl⟩ : ∃ qp, q = qp + 1 := ⟨q - 1, by omega⟩
          have hltz3 : (i : Int) < (qp : Int) + 1 := by omega
          have eea : ((qp : Int) + 1).toNat = qp + 1 := by omega
          have pea : (0 : Int) ≤ (qp : Int) + 1 := by omega
          have bea : (qp : Int) + 1 < (d.size : Int) := by omega
          have rea : IntKind.i64.wrap ((qp : Int) + 1) = (qp : Int) + 1 := by rw [IntKind.wrap_i64]; omega
          have eeb : ((qp : Int)).toNat = qp := by omega
          have peb : (0 : Int) ≤ (qp : Int) := by omega
          have beb : (qp : Int) < (d.size : Int) := by omega
          have reb : IntKind.i64.wrap ((qp : Int)) = (qp : Int) := by rw [IntKind.wrap_i64]; omega
          have S2 : Aside (SP enc k w0 blk off (swp dk (qp + 1) (qp)) ((wr.drew.setCells blk (off + (qp + 1) * k) (enc dk[qp]!)).setCells blk (off + (qp) * k) (enc dk[qp + 1]!))) := S1.out.swapped R (qp + 1) (qp) (by omega) (by omega)
          have l1 := S1.out.ld1 R (by omega) P (qp + 1) (by omega)
          have l2 := S1.out.ld1 R (by omega) P (qp) (by omega)
          have s1 := S1.out.st1 R (by omega) P (qp + 1) (by omega) dk[qp]!
          have s2 := S1.out.st2 R (by omega) P (qp + 1) (qp) (by omega) (by omega) dk[qp]! dk[qp + 1]!
          have n1 : (enc dk[qp + 1]!).length = k := R.hk _
          have n2 : (enc dk[qp]!).length = k := R.hk _
          generalize enc dk[qp + 1]! = cI at S2 l1 s2 n1
          generalize enc dk[qp]! = cJ at S2 l2 s1 s2 n2
          clear S1
          go_wp2_with fail
          go_big_region_o
          clear l1 l2 s1 s2
          generalize (wr.drew.setCells blk (off + (qp + 1) * k) cJ).setCells blk (off + (qp) * k) cI = w2 at S2 ⊢
          go_wp2
          go_roundg (qp - i)
          case measure => omega
          case rel => exact ⟨qp, _, by first | rfl | go_num | (congr 1; omega), by omega, by omega, Nat.le_refl _, by rw [size_swp]; exact hds, S2, ⟨via_down (by omega) (by omega) V2.out.1, perm_swp V2.out.2 hb (by omega) (by omega)⟩⟩
        · have hltz2 : ¬ (i : Int) < (q : Int) := by omega
          have hltB : decide ((q : Int) > (i : Int)) = false := decide_eq_false (by omega)
          obtain rfl : q = i := by omega
          go_wp2
          go_end0
          exact ⟨rfl, dk, S1.out, insert_down V2.out.1 (by omega) hai hqm HO.out.1 HO.out.2 V1.out.1 V1.out.2, V2.out.2⟩
end Go.Proofs.YtkhjkodeolaemaaDoor
