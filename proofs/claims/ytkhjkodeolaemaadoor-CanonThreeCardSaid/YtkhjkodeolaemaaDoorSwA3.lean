/- Layer 7: the stable sort's parts over rows of places: two rows that are in order, one behind the other, become one. -/
import Derived.Test.YtkhjkodeolaemaaDoorSwA2
namespace Go.Proofs.YtkhjkodeolaemaaDoor
set_option linter.unusedSimpArgs false
set_option linter.unusedVariables false
open Go.Shelf Go.RowKit Go.Lib Go.Sort
open Stb
variable {P : Program} {k : Nat}

/-- what a merge of [a, m) and [m, b) comes to -/
def Merges (P : Program) (k : Nat) (enc : El → List Value) (g : Nat) (cb : Array Value) (blk off cap : Nat) (d0 : Array El) (w0 : World) (n : Nat) : Prop :=
  ∀ (a m b : Nat) (d : Array El) (w : World), b - a ≤ n → d0.size = d.size → SP enc k w0 blk off d w → a < m → m < b → b ≤ d.size → St d a m → St d m b → Ah d a m b →
    Calls P 57 #[.slice (some ⟨blk, off, none⟩) d.size cap, .int .i64 a, .int .i64 m, .int .i64 b, .func (.func g) #[] cb] w
      (Rowed enc k w0 blk off fun d' => St d' a b ∧ PermIn a b d d')

set_option maxHeartbeats 8000000 in
set_option maxRecDepth 1000000 in
theorem merge_one (L : Prg P k) (enc : El → List Value) (cf : El → El → Int) (hk : ∀ x y, cf x y < 0 ↔ KL x y) (g : Nat) (cb : Array Value) (blk off cap a b : Nat) (d0 d : Array El) (w0 w : World)
    (eg : ∀ args w, (callFunc g args).run P w = .ok (.enter g args) w) (hcmp : CmpLays P g cb enc k cf blk off d0.size w0)
    (R : RP enc k w0 blk off d0) (hs : d0.size = d.size) (S : SP enc k w0 blk off d w) (hab : a + 1 < b) (hb : b ≤ d.size) (hsz : d.size < 4611686018427387904)
    (h2 : St d (a + 1) b) (ha : Ah d a (a + 1) b) :
    Calls P 57 #[.slice (some ⟨blk, off, none⟩) d.size cap, .int .i64 a, .int .i64 ((a : Int) + 1), .int .i64 b, .func (.func g) #[] cb] w
      (Rowed enc k w0 blk off fun d' => St d' a b ∧ PermIn a b d d') := by
  have mixed := L.mixed; have t0 := L.t0; have a0 := L.a0; have z0 := L.z0; have v0 := L.v0; have t3 := L.t3; have a3 := L.a3; have z3 := L.z3; have v3 := L.v3; have t4 := L.t4; have a4 := L.a4; have z4 := L.z4; have v4 := L.v4; have tU := L.tU; have tS := L.tS; have aS := L.aS; have zS := L.zS; have vS := L.vS; have tF := L.tF; have aF := L.aF; have zF := L.zF; have vF := L.vF; have aE := L.aE; have zE := L.zE; have eSw := L.eSw; have eRo := L.eRo; have eIn := L.eIn; have eSy := L.eSy; have eSt := L.eSt
  have S0 : Aside (SP enc k w0 blk off d w) := S
  have HC : Aside _ := hcmp
  have HK : Aside _ := hk
  have HO : Aside (St d (a + 1) b ∧ Ah d a (a + 1) b) := ⟨h2, ha⟩
  clear S hcmp hk h2 ha
  have hm1 : (a : Int) + 1 - (a : Int) = 1 := by omega
  go_enter L.fSy, Tryd.ntmps57
  go_wp2
  go_loopg [10, 11] (b - a) (fun g1 vi vj wr => ∃ (i j : Nat), vi = .int .i64 i ∧ vj = .int .i64 j ∧ a + 1 ≤ i ∧ i ≤ j ∧ j ≤ b ∧ j - i ≤ g1 ∧ Aside (SP enc k w0 blk off d wr) ∧ Aside ((i = a + 1 ∨ KL d[i - 1]! d[a]!) ∧ (j = b ∨ ¬ KL d[j]! d[a]!)))
  case atStart => exact ⟨a + 1, b, by go_num, rfl, Nat.le_refl _, by omega, Nat.le_refl _, by omega, S0, ⟨Or.inl rfl, Or.inl rfl⟩⟩
  case round =>
    clear S0
    obtain ⟨i, j, rfl, rfl, hai, hij, hjb, hg1, S1, V1⟩ := hrel
    by_cases hlt : i < j
    · have hltz : (i : Int) < (j : Int) := by omega
      have eh : (((i + j) / 2 : Nat) : Int) = ((i : Int) + (j : Int)) / 2 := by omega
      obtain ⟨h, hh⟩ : ∃ h, (i + j) / 2 = h := ⟨_, rfl⟩
      have hh1 : i ≤ h := by omega
      have hh2 : h < j := by omega
      have ehz : ((i : Int) + (j : Int)) / 2 = (h : Int) := by omega
      clear eh
      by_cases hq : KL d[h]! d[a]!
      · have HQ : Aside (KL d[h]! d[a]!) := hq
        have eea : ((h : Int)).toNat = h := by omega
        have pea : (0 : Int) ≤ (h : Int) := by omega
        have bea : (h : Int) < (d.size : Int) := by omega
        have rea : IntKind.i64.wrap ((h : Int)) = (h : Int) := by rw [IntKind.wrap_i64]; omega
        have eeb : ((a : Int)).toNat = a := by omega
        have peb : (0 : Int) ≤ (a : Int) := by omega
        have beb : (a : Int) < (d.size : Int) := by omega
        have reb : IntKind.i64.wrap ((a : Int)) = (a : Int) := by rw [IntKind.wrap_i64]; omega
        obtain ⟨xa, hxa⟩ : ∃ zz, zz = d[h]! := ⟨_, rfl⟩
        obtain ⟨xb, hxb⟩ : ∃ zz, zz = d[a]! := ⟨_, rfl⟩
        have l1 := S1.out.ld R (by omega) P (h) (by omega)
        have l2 := S1.out.ld R (by omega) P (a) (by omega)
        rw [← hxa] at l1
        rw [← hxb] at l2
        have hc := S1.out.cmp HC.out (by omega) xa xb
        have hv : cf xa xb < 0 := by rw [hxa, hxb]; exact (HK.out _ _).2 hq
        have hd : decide (cf xa xb < 0) = true := decide_eq_true hv
        clear hxa hxb
        go_wp2_with fail
        go_quiet_grown (first | (go_at_fn g; refine Calls.grown_of (hc _ _)))
        have S2 : Aside (SP enc k w0 blk off d (grow (wr.drewN nq) osq)) := S1.out.grown nq osq
        clear l1 l2 hc S1
        generalize grow (wr.drewN nq) osq = w2 at S2 ⊢
        clear nq osq
        clear hq
        go_wp2
        go_roundg (j - (h + 1))
        case measure => omega
        case rel => exact ⟨h + 1, j, by go_num, rfl, by omega, by omega, hjb, Nat.le_refl _, S2, ⟨Or.inr (by simp only [Nat.add_sub_cancel]; exact HQ.out), V1.out.2⟩⟩
      · have HQ : Aside (¬ KL d[h]! d[a]!) := hq
        have eea : ((h : Int)).toNat = h := by omega
        have pea : (0 : Int) ≤ (h : Int) := by omega
        have bea : (h : Int) < (d.size : Int) := by omega
        have rea : IntKind.i64.wrap ((h : Int)) = (h : Int) := by rw [IntKind.wrap_i64]; omega
        have eeb : ((a : Int)).toNat = a := by omega
        have peb : (0 : Int) ≤ (a : Int) := by omega
        have beb : (a : Int) < (d.size : Int) := by omega
        have reb : IntKind.i64.wrap ((a : Int)) = (a : Int) := by rw [IntKind.wrap_i64]; omega
        obtain ⟨xa, hxa⟩ : ∃ zz, zz = d[h]! := ⟨_, rfl⟩
        obtain ⟨xb, hxb⟩ : ∃ zz, zz = d[a]! := ⟨_, rfl⟩
        have l1 := S1.out.ld R (by omega) P (h) (by omega)
        have l2 := S1.out.ld R (by omega) P (a) (by omega)
        rw [← hxa] at l1
        rw [← hxb] at l2
        have hc := S1.out.cmp HC.out (by omega) xa xb
        have hv : ¬ cf xa xb < 0 := by rw [hxa, hxb]; exact fun h => hq ((HK.out _ _).1 h)
        have hd : decide (cf xa xb < 0) = false := decide_eq_false hv
        clear hxa hxb
        go_wp2_with fail
        go_quiet_grown (first | (go_at_fn g; refine Calls.grown_of (hc _ _)))
        have S2 : Aside (SP enc k w0 blk off d (grow (wr.drewN nq) osq)) := S1.out.grown nq osq
        clear l1 l2 hc S1
        generalize grow (wr.drewN nq) osq = w2 at S2 ⊢
        clear nq osq
        clear hq
        go_wp2
        go_roundg (h - i)
        case measure => omega
        case rel => exact ⟨i, h, rfl, rfl, hai, hh1, by omega, Nat.le_refl _, S2, ⟨V1.out.1, Or.inr HQ.out⟩⟩
    · obtain rfl : i = j := by omega
      have hltz : ¬ (i : Int) < (i : Int) := by omega
      go_wp2
      go_loopg [13] (i - a) (fun g1 vk wr2 => ∃ (q : Nat) (dk : Array El), vk = .int .i64 q ∧ a ≤ q ∧ q ≤ i - 1 ∧ i - 1 - q ≤ g1 ∧ dk.size = d.size ∧ Aside (SP enc k w0 blk off dk wr2) ∧ Aside (Via (uR a q) d dk ∧ PermIn a b d dk))
      case atStart => exact ⟨a, d, rfl, Nat.le_refl _, by omega, by omega, rfl, S1, ⟨via_up0 _ _, permIn_refl _ _ _⟩⟩
      case round =>
        clear S1
        obtain ⟨q, dk, rfl, haq, hqi, hg2, hds, S1, V2⟩ := hrel
        by_cases hlt2 : q < i - 1
        · have hltz2 : (q : Int) < (i : Int) - 1 := by omega
          have eea : ((q : Int)).toNat = q := by omega
          have pea : (0 : Int) ≤ (q : Int) := by omega
          have bea : (q : Int) < (d.size : Int) := by omega
          have rea : IntKind.i64.wrap ((q : Int)) = (q : Int) := by rw [IntKind.wrap_i64]; omega
          have eeb : ((q : Int) + 1).toNat = q + 1 := by omega
          have peb : (0 : Int) ≤ (q : Int) + 1 := by omega
          have beb : (q : Int) + 1 < (d.size : Int) := by omega
          have reb : IntKind.i64.wrap ((q : Int) + 1) = (q : Int) + 1 := by rw [IntKind.wrap_i64]; omega
          have S2 : Aside (SP enc k w0 blk off (swp dk (q) (q + 1)) ((wr.drew.setCells blk (off + (q) * k) (enc dk[q + 1]!)).setCells blk (off + (q + 1) * k) (enc dk[q]!))) := S1.out.swapped R (q) (q + 1) (by omega) (by omega)
          have l1 := S1.out.ld1 R (by omega) P (q) (by omega)
          have l2 := S1.out.ld1 R (by omega) P (q + 1) (by omega)
          have s1 := S1.out.st1 R (by omega) P (q) (by omega) dk[q + 1]!
          have s2 := S1.out.st2 R (by omega) P (q) (q + 1) (by omega) (by omega) dk[q + 1]! dk[q]!
          have n1 : (enc dk[q]!).length = k := R.hk _
          have n2 : (enc dk[q + 1]!).length = k := R.hk _
          generalize enc dk[q]! = cI at S2 l1 s2 n1
          generalize enc dk[q + 1]! = cJ at S2 l2 s1 s2 n2
          clear S1
          go_wp2_with fail
          go_big_region_o
          clear l1 l2 s1 s2
          generalize (wr.drew.setCells blk (off + (q) * k) cJ).setCells blk (off + (q + 1) * k) cI = w2 at S2 ⊢
          go_wp2
          go_roundg (i - 1 - (q + 1))
          case measure => omega
          case rel => exact ⟨q + 1, _, by go_num, by omega, by omega, Nat.le_refl _, by rw [size_swp]; exact hds, S2, ⟨via_up haq (by omega) V2.out.1, perm_swp V2.out.2 hb (by omega) (by omega)⟩⟩
        · have hltz2 : ¬ (q : Int) < (i : Int) - 1 := by omega
          obtain rfl : q = i - 1 := by omega
          go_wp2
          go_end0
          exact ⟨rfl, dk, S1.out, insert_up V2.out.1 hb hai hjb HO.out.1 HO.out.2 V1.out.1 V1.out.2, V2.out.2⟩
end Go.Proofs.YtkhjkodeolaemaaDoor
