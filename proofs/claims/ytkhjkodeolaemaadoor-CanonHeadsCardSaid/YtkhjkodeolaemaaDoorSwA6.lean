/- Layer 7: the stable sort over rows of places, whole. -/
import Derived.Test.YtkhjkodeolaemaaDoorSwA5
import Derived.Test.YtkhjkodeolaemaaDoorStN7
namespace Go.Proofs.YtkhjkodeolaemaaDoor
set_option linter.unusedSimpArgs false
set_option linter.unusedVariables false
open Go.Shelf Go.RowKit Go.Lib Go.Sort
open Stb
variable {P : Program} {k : Nat}

set_option maxHeartbeats 16000000 in
set_option maxRecDepth 1000000 in
theorem stable_any (L : Prg P k) (enc : El → List Value) (cf : El → El → Int) (hk : ∀ x y, cf x y < 0 ↔ KL x y) (g : Nat) (cb : Array Value) (blk off cap : Nat) (d0 d : Array El) (w0 w : World)
    (eg : ∀ args w, (callFunc g args).run P w = .ok (.enter g args) w) (hcmp : CmpLays P g cb enc k cf blk off d0.size w0)
    (R : RP enc k w0 blk off d0) (hs : d0.size = d.size) (S : SP enc k w0 blk off d w) (hsz : d.size ≤ 1000000) (hid : ∀ t, t < d.size → (d[t]!).2.2.2 = t) :
    Calls P 40 #[.slice (some ⟨blk, off, none⟩) d.size cap, .int .i64 d.size, .func (.func g) #[] cb] w
      (Rowed enc k w0 blk off fun d' => St d' 0 d.size ∧ PermIn 0 d.size d d') := by
  have mixed := L.mixed; have t0 := L.t0; have a0 := L.a0; have z0 := L.z0; have v0 := L.v0; have t3 := L.t3; have a3 := L.a3; have z3 := L.z3; have v3 := L.v3; have t4 := L.t4; have a4 := L.a4; have z4 := L.z4; have v4 := L.v4; have tU := L.tU; have tS := L.tS; have aS := L.aS; have zS := L.zS; have vS := L.vS; have tF := L.tF; have aF := L.aF; have zF := L.zF; have vF := L.vF; have aE := L.aE; have zE := L.zE; have eSw := L.eSw; have eRo := L.eRo; have eIn := L.eIn; have eSy := L.eSy; have eSt := L.eSt
  have S0 : Aside (SP enc k w0 blk off d w) := S
  have HI : Aside (∀ t, t < d.size → (d[t]!).2.2.2 = t) := hid
  have IN : Aside (∀ (a b : Nat) (dk : Array El) (wr : World), dk.size = d.size → SP enc k w0 blk off dk wr → a ≤ b → b ≤ d.size → (∀ t, a ≤ t → dk[t]! = d[t]!) →
      Calls P 56 #[.slice (some ⟨blk, off, none⟩) d.size cap, .int .i64 a, .int .i64 b, .func (.func g) #[] cb] wr (Rowed enc k w0 blk off fun d' => St d' a b ∧ PermIn a b dk d')) := fun a b dk wr h1 h2 h3 h4 h5 => by
    have h := insertion_any L enc cf hk g cb blk off cap a b d0 dk w0 wr eg hcmp R (by omega) h2 h3 (by omega) (by omega) (fun i j x y z => by rw [h5 i x, h5 j (by omega), hid i (by omega), hid j (by omega)]; exact y)
    rwa [h1] at h
  have ME : Aside (∀ (a m b : Nat) (dk : Array El) (wr : World), dk.size = d.size → SP enc k w0 blk off dk wr → a < m → m < b → b ≤ d.size → Seg dk a m → Seg dk m b →
      Calls P 57 #[.slice (some ⟨blk, off, none⟩) d.size cap, .int .i64 a, .int .i64 m, .int .i64 b, .func (.func g) #[] cb] wr (Rowed enc k w0 blk off fun d' => St d' a b ∧ PermIn a b dk d')) := fun a m b dk wr h1 h2 h3 h4 h5 h6 h7 => by
    have h := merge_any L enc cf hk g cb blk off cap d0 w0 eg hcmp R (by omega) (b - a) a m b dk wr (Nat.le_refl _) (by omega) h2 h3 h4 (by omega) h6.1 h7.1 (seg_ah h6 h7)
    rwa [h1] at h
  obtain ⟨n, hn⟩ : ∃ n, d.size = n := ⟨_, rfl⟩
  rw [hn] at hsz HI IN ME hs ⊢
  have HN : Aside (d.size = n) := hn
  clear S hcmp hk hid eg hn
  go_enter L.fSt, Tryd.ntmps40
  clear L R
  go_wp2
  go_loopg [7, 8] (n + 1) (fun g1 v7 v8 wr => ∃ (a b : Nat) (dk : Array El), v7 = .int .i64 a ∧ v8 = .int .i64 b ∧ b ≤ a + 20 ∧ a + 20 ≤ b ∧ a ≤ n ∧ n + 1 - a ≤ g1 ∧ dk.size = n ∧ Aside (SP enc k w0 blk off dk wr) ∧ Aside (Dn 20 n dk a ∧ PermIn 0 n d dk ∧ (∀ t, a ≤ t → dk[t]! = d[t]!)))
  case atStart => exact ⟨0, 20, d, rfl, rfl, by omega, by omega, Nat.zero_le _, by omega, HN.out, S0, ⟨dn_zero _ _ _, permIn_refl _ _ _, fun _ _ => rfl⟩⟩
  case round =>
    clear S0
    obtain ⟨a, b, dk, rfl, rfl, hb1, hb2, han, hg1, hds, S1, V1⟩ := hrel
    by_cases hlt : b ≤ n
    · have hltz : (b : Int) ≤ (n : Int) := by omega
      have hcall := IN.out a b dk wr hds S1.out (by omega) hlt V1.out.2.2
      go_wp2_with (go_at_fn 56; refine hcall.mono ?_; rintro e1 w1 ⟨rfl, d1, T1, X1, P1⟩)
      clear S1
      go_roundg (n + 1 - b)
      case measure => omega
      case rel =>
        have hz : d1.size = n := P1.1.trans hds
        have hsg : Seg d1 a b := seg_put P1 (by omega) X1 (fun t x y => by rw [V1.out.2.2 t x, HI.out t (by omega)]; omega)
        have hb : b = a + 20 := by omega
        refine ⟨b, b + 20, d1, rfl, by go_num, by omega, by omega, hlt, Nat.le_refl _, hz, T1, ⟨?_, perm_on V1.out.2.1 (perm_sub P1 (Nat.zero_le _) hlt (by omega)), fun t ht => ?_⟩⟩
        · rw [hb] at P1 hsg hlt ⊢
          exact dn_more V1.out.1 hlt P1 hsg
        · rw [P1.2.1 t (Or.inr ht)]; exact V1.out.2.2 t (by omega)
    · have hltz : ¬ (b : Int) ≤ (n : Int) := by omega
      have hcall := IN.out a n dk wr hds S1.out han (Nat.le_refl _) V1.out.2.2
      go_wp2_with (go_at_fn 56; refine hcall.mono ?_; rintro e1 w1 ⟨rfl, d1, T1, X1, P1⟩)
      clear S1 hcall
      have hz : d1.size = n := P1.1.trans hds
      have T1 : Aside (SP enc k w0 blk off d1 w1) := T1
      have V2 : Aside (Bl 20 n d1 0 ∧ PermIn 0 n d d1) := ⟨dn_end V1.out.1 (by omega) P1 (seg_put P1 (by omega) X1 (fun t x y => by rw [V1.out.2.2 t x, HI.out t (by omega)]; omega)), perm_on V1.out.2.1 (perm_sub P1 (Nat.zero_le _) (Nat.le_refl _) (by omega))⟩
      clear V1 X1 P1
      go_loopg [6, 7, 8, 9] n (fun g1 v6 v7 v8 v9 wr => ∃ (s : Nat) (dj : Array El), v6 = .int .i64 s ∧ 20 ≤ s ∧ s ≤ 4000000 ∧ n - s ≤ g1 ∧ dj.size = n ∧ Aside (SP enc k w0 blk off dj wr) ∧ Aside (Bl s n dj 0 ∧ PermIn 0 n d dj))
      case atStart => exact ⟨20, d1, rfl, by omega, by omega, by omega, hz, T1, V2⟩
      case round =>
        clear T1 V2
        obtain ⟨s, dj, rfl, hs20, hsn, hg2, hdj, S2, V2⟩ := hrel
        by_cases hsl : s < n
        · have hslz : (s : Int) < (n : Int) := by omega
          obtain ⟨s2, hs2⟩ : ∃ s2, 2 * s = s2 := ⟨_, rfl⟩
          have hs2a : 2 * s ≤ s2 := by omega
          have hs2b : s2 ≤ 2 * s := by omega
          have e2s : 2 * (s : Int) = (s2 : Int) := by omega
          have es2 : (s : Int) * 2 = (s2 : Int) := by omega
          have HS2 : Aside (2 * s = s2) := hs2
          clear hs2
          go_wp2
          go_loopg [7, 8] (n + 1) (fun g2 v7 v8 wr2 => ∃ (a b : Nat) (dq : Array El), v7 = .int .i64 a ∧ v8 = .int .i64 b ∧ b ≤ a + 2 * s ∧ a + 2 * s ≤ b ∧ a ≤ n ∧ n + 1 - a ≤ g2 ∧ dq.size = n ∧ Aside (SP enc k w0 blk off dq wr2) ∧ Aside (Dn (2 * s) n dq a ∧ Bl s n dq a ∧ PermIn 0 n d dq))
          case atStart => exact ⟨0, s2, dj, rfl, rfl, by omega, by omega, Nat.zero_le _, by omega, hdj, S2, ⟨dn_zero _ _ _, V2.out.1, V2.out.2⟩⟩
          case round =>
            clear S2 V2
            obtain ⟨a, b, dq, rfl, rfl, hb1, hb2, han, hg3, hdq, S3, V3⟩ := hrel
            by_cases hlt2 : b ≤ n
            · have hltz2 : (b : Int) ≤ (n : Int) := by omega
              have hcall := ME.out a (a + s) b dq wr hdq S3.out (by omega) (by omega) hlt2 (bl_first V3.out.2.1 (by omega)) (by rw [show b = a + 2 * s by omega]; exact bl_second V3.out.2.1 (by omega))
              rw [show ((a + s : Nat) : Int) = (a : Int) + (s : Int) by omega] at hcall
              go_wp2_with (go_at_fn 57; refine hcall.mono ?_; rintro e1 w3 ⟨rfl, d3, T3, X3, P3⟩)
              clear hcall
              go_roundg (n + 1 - b)
              case measure => omega
              case rel =>
                have hz3 : d3.size = n := P3.1.trans hdq
                have hsg : Seg d3 a b := seg_two P3 (by omega) X3 (bl_first V3.out.2.1 (by omega)) (by rw [show b = a + 2 * s by omega]; exact bl_second V3.out.2.1 (by omega)) (by omega) (by omega)
                have hb : b = a + 2 * s := by omega
                refine ⟨b, b + s2, d3, rfl, by go_num, by omega, by omega, hlt2, Nat.le_refl _, hz3, T3, ?_⟩
                rw [hb] at P3 hsg hlt2 ⊢
                exact ⟨dn_more V3.out.1 hlt2 P3 hsg, bl_more V3.out.2.1 P3 hlt2, perm_on V3.out.2.2 (perm_sub P3 (Nat.zero_le _) hlt2 (by omega))⟩
            · have hltz2 : ¬ (b : Int) ≤ (n : Int) := by omega
              by_cases hm : a + s < n
              · have hmz : (a : Int) + (s : Int) < (n : Int) := by omega
                have hcall := ME.out a (a + s) n dq wr hdq S3.out (by omega) hm (Nat.le_refl _) (bl_first V3.out.2.1 (by omega)) (bl_second_cut V3.out.2.1 (by omega) (by omega))
                rw [show ((a + s : Nat) : Int) = (a : Int) + (s : Int) by omega] at hcall
                go_wp2_with (go_at_fn 57; refine hcall.mono ?_; rintro e1 w3 ⟨rfl, d3, T3, X3, P3⟩)
                clear hcall
                go_roundg (n - s2)
                case measure => omega
                case rel =>
                  have hz3 : d3.size = n := P3.1.trans hdq
                  have hsg : Seg d3 a n := seg_two P3 (by omega) X3 (bl_first V3.out.2.1 (by omega)) (bl_second_cut V3.out.2.1 (by omega) (by omega)) (by omega) (by omega)
                  refine ⟨s2, d3, rfl, by omega, by omega, Nat.le_refl _, hz3, T3, ?_⟩
                  rw [← HS2.out]
                  exact ⟨dn_end V3.out.1 (by omega) P3 hsg, perm_on V3.out.2.2 (perm_sub P3 (Nat.zero_le _) (Nat.le_refl _) (by omega))⟩
              · have hmz : ¬ (a : Int) + (s : Int) < (n : Int) := by omega
                go_wp2
                go_roundg (n - s2)
                case measure => omega
                case rel =>
                  have hsg : Seg dq a n := bl_first_cut V3.out.2.1 han (by omega)
                  refine ⟨s2, dq, rfl, by omega, by omega, Nat.le_refl _, hdq, S3, ?_⟩
                  rw [← HS2.out]
                  exact ⟨dn_end V3.out.1 (by omega) (permIn_refl _ _ _) hsg, V3.out.2.2⟩
        · have hslz : ¬ (s : Int) < (n : Int) := by omega
          go_wp2
          go_end0
          exact ⟨rfl, dj, S2.out, (bl_first_cut V2.out.1 (Nat.zero_le _) (by omega)).1, V2.out.2⟩
end Go.Proofs.YtkhjkodeolaemaaDoor
