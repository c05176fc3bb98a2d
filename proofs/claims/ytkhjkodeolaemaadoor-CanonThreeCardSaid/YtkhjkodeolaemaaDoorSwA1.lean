/- Layer 7: the stable sort's parts over rows of places, in whatever program bears them: two rows change places; of two rows, one behind the other, each takes the other's place. -/
import Derived.Test.YtkhjkodeolaemaaDoorStM7
import Derived.Test.YtkhjkodeolaemaaDoorG0
import Derived.Shelf.SlSortCmp.KitK
import Derived.Sort.WalkB2
import Derived.Sort.WalkB12
import Derived.Deep.LoopGhost
namespace Go.Proofs.YtkhjkodeolaemaaDoor
set_option linter.unusedSimpArgs false
set_option linter.unusedVariables false
open Go.Shelf Go.RowKit Go.Lib Go.Sort
open Stb

/-- what is asked of a program: the sort's functions, the types that these use, an element of k cells -/
structure Prg (P : Program) (k : Nat) : Prop where
  mixed : P.follows .mixedOrders = true
  t0 : P.underlying 0 = some (TypeDesc.tuple #[])
  a0 : ∀ w, (isAgg 0).run P w = .ok false w
  z0 : ∀ w, (Go.sizeOf 0).run P w = .ok 1 w
  v0 : ∀ w, (zeroValue 0).run P w = .ok (Value.tuple #[]) w
  t3 : P.underlying 3 = some (TypeDesc.int IntKind.i64)
  a3 : ∀ w, (isAgg 3).run P w = .ok false w
  z3 : ∀ w, (Go.sizeOf 3).run P w = .ok 1 w
  v3 : ∀ w, (zeroValue 3).run P w = .ok (Value.int IntKind.i64 0) w
  t4 : P.underlying 4 = some (TypeDesc.bool)
  a4 : ∀ w, (isAgg 4).run P w = .ok false w
  z4 : ∀ w, (Go.sizeOf 4).run P w = .ok 1 w
  v4 : ∀ w, (zeroValue 4).run P w = .ok (Value.bool false) w
  tU : P.underlying 75 = some (TypeDesc.int IntKind.u64)
  tS : P.underlying 35 = some (TypeDesc.slice 39)
  aS : ∀ w, (isAgg 35).run P w = .ok false w
  zS : ∀ w, (Go.sizeOf 35).run P w = .ok 1 w
  vS : ∀ w, (zeroValue 35).run P w = .ok (Value.slice none 0 0) w
  tF : P.underlying 40 = some (TypeDesc.func #[39, 39] #[3] false)
  aF : ∀ w, (isAgg 40).run P w = .ok false w
  zF : ∀ w, (Go.sizeOf 40).run P w = .ok 1 w
  vF : ∀ w, (zeroValue 40).run P w = .ok (Value.nilFunc) w
  aE : ∀ w, (isAgg 39).run P w = .ok true w
  zE : ∀ w, (Go.sizeOf 39).run P w = .ok k w
  fSw : P.funcs[71]? = some Tryd.f71
  fRo : P.funcs[65]? = some Tryd.f65
  fIn : P.funcs[56]? = some Tryd.f56
  fSy : P.funcs[57]? = some Tryd.f57
  fSt : P.funcs[40]? = some Tryd.f40
  eSw : ∀ args w, (callFunc 71 args).run P w = .ok (.enter 71 args) w
  eRo : ∀ args w, (callFunc 65 args).run P w = .ok (.enter 65 args) w
  eIn : ∀ args w, (callFunc 56 args).run P w = .ok (.enter 56 args) w
  eSy : ∀ args w, (callFunc 57 args).run P w = .ok (.enter 57 args) w
  eSt : ∀ args w, (callFunc 40 args).run P w = .ok (.enter 40 args) w

/-- the row, in a world of the sort's -/
abbrev SP (enc : El → List Value) (k : Nat) (w0 : World) (blk off : Nat) (d : Array El) (w : World) : Prop := SWK enc k w0 blk off d w
abbrev RP (enc : El → List Value) (k : Nat) (w0 : World) (blk off : Nat) (d0 : Array El) : Prop := RowK enc k w0 blk off d0
/-- what such a call comes to: the row is another one, of which F holds -/
def Rowed (enc : El → List Value) (k : Nat) (w0 : World) (blk off : Nat) (F : Array El → Prop) (e : Ending) (w' : World) : Prop := e = .returned (.tuple #[]) ∧ ∃ d' : Array El, SP enc k w0 blk off d' w' ∧ F d'

variable {P : Program} {k : Nat}

set_option maxHeartbeats 4000000 in
set_option maxRecDepth 1000000 in
theorem swapRange_any (L : Prg P k) (enc : El → List Value) (blk off cap a b n : Nat) (d0 d : Array El) (w0 w : World) (cf : Value)
    (R : RP enc k w0 blk off d0) (hs : d0.size = d.size) (S : SP enc k w0 blk off d w) (hab : a + n ≤ b) (hb : b + n ≤ d.size) (hsz : d.size < 4611686018427387904) :
    Calls P 71 #[.slice (some ⟨blk, off, none⟩) d.size cap, .int .i64 a, .int .i64 b, .int .i64 n, cf] w
      (Rowed enc k w0 blk off fun d' => Via (sR a b n) d d' ∧ PermIn a (b + n) d d') := by
  have mixed := L.mixed; have t0 := L.t0; have a0 := L.a0; have z0 := L.z0; have v0 := L.v0; have t3 := L.t3; have a3 := L.a3; have z3 := L.z3; have v3 := L.v3; have t4 := L.t4; have a4 := L.a4; have z4 := L.z4; have v4 := L.v4; have tU := L.tU; have tS := L.tS; have aS := L.aS; have zS := L.zS; have vS := L.vS; have tF := L.tF; have aF := L.aF; have zF := L.zF; have vF := L.vF; have aE := L.aE; have zE := L.zE; have eSw := L.eSw; have eRo := L.eRo; have eIn := L.eIn; have eSy := L.eSy; have eSt := L.eSt
  have S0 : Aside (SP enc k w0 blk off d w) := S
  clear S
  go_enter L.fSw, Tryd.ntmps71
  go_wp2
  go_loopg [10] n (fun g vi wr => ∃ (i : Nat) (dk : Array El), vi = .int .i64 i ∧ i ≤ n ∧ g = n - i ∧ dk.size = d.size ∧ Aside (SP enc k w0 blk off dk wr) ∧ Aside (Via (sR a b i) d dk ∧ PermIn a (b + n) d dk))
  case atStart => exact ⟨0, d, rfl, Nat.zero_le _, rfl, rfl, S0, ⟨⟨rfl, fun t _ => by congr 1; unfold sR; (repeat' split) <;> omega⟩, permIn_refl _ _ _⟩⟩
  case round =>
    clear S0
    obtain ⟨i, dk, rfl, hin, rfl, hds, S1, V1⟩ := hrel
    by_cases hlt : i < n
    · have hltz : (i : Int) < (n : Int) := by omega
      have eea : ((a : Int) + (i : Int)).toNat = a + i := by omega
      have pea : (0 : Int) ≤ (a : Int) + (i : Int) := by omega
      have bea : (a : Int) + (i : Int) < (d.size : Int) := by omega
      have rea : IntKind.i64.wrap ((a : Int) + (i : Int)) = (a : Int) + (i : Int) := by rw [IntKind.wrap_i64]; omega
      have eeb : ((b : Int) + (i : Int)).toNat = b + i := by omega
      have peb : (0 : Int) ≤ (b : Int) + (i : Int) := by omega
      have beb : (b : Int) + (i : Int) < (d.size : Int) := by omega
      have reb : IntKind.i64.wrap ((b : Int) + (i : Int)) = (b : Int) + (i : Int) := by rw [IntKind.wrap_i64]; omega
      have S2 : Aside (SP enc k w0 blk off (swp dk (a + i) (b + i)) ((wr.drew.setCells blk (off + (a + i) * k) (enc dk[b + i]!)).setCells blk (off + (b + i) * k) (enc dk[a + i]!))) := S1.out.swapped R (a + i) (b + i) (by omega) (by omega)
      have l1 := S1.out.ld1 R (by omega) P (a + i) (by omega)
      have l2 := S1.out.ld1 R (by omega) P (b + i) (by omega)
      have s1 := S1.out.st1 R (by omega) P (a + i) (by omega) dk[b + i]!
      have s2 := S1.out.st2 R (by omega) P (a + i) (b + i) (by omega) (by omega) dk[b + i]! dk[a + i]!
      have n1 : (enc dk[a + i]!).length = k := R.hk _
      have n2 : (enc dk[b + i]!).length = k := R.hk _
      generalize enc dk[a + i]! = cI at S2 l1 s2 n1
      generalize enc dk[b + i]! = cJ at S2 l2 s1 s2 n2
      clear S1
      go_wp2_with fail
      go_big_region_o
      clear l1 l2 s1 s2
      generalize (wr.drew.setCells blk (off + (a + i) * k) cJ).setCells blk (off + (b + i) * k) cI = w2 at S2 ⊢
      go_wp2
      go_roundg (n - (i + 1))
      case measure => omega
      case rel => exact ⟨i + 1, _, by go_num, by omega, rfl, by rw [size_swp]; exact hds, S2, ⟨via_swap_more hab (by omega) hlt V1.out.1, perm_swp V1.out.2 hb (by omega) (by omega)⟩⟩
    · obtain rfl : n = i := by omega
      go_wp2
      go_end0
      exact ⟨rfl, dk, S1.out, V1.out.1, V1.out.2⟩

set_option maxHeartbeats 4000000 in
set_option maxRecDepth 1000000 in
theorem rotate_any (L : Prg P k) (enc : El → List Value) (blk off cap a m b : Nat) (d0 d : Array El) (w0 w : World) (cf : Value)
    (R : RP enc k w0 blk off d0) (hs : d0.size = d.size) (S : SP enc k w0 blk off d w) (ham : a < m) (hmb : m < b) (hb : b ≤ d.size) (hsz : d.size < 4611686018427387904) :
    Calls P 65 #[.slice (some ⟨blk, off, none⟩) d.size cap, .int .i64 a, .int .i64 m, .int .i64 b, cf] w
      (Rowed enc k w0 blk off fun d' => Via (rR a m b) d d' ∧ PermIn a b d d') := by
  have mixed := L.mixed; have t0 := L.t0; have a0 := L.a0; have z0 := L.z0; have v0 := L.v0; have t3 := L.t3; have a3 := L.a3; have z3 := L.z3; have v3 := L.v3; have t4 := L.t4; have a4 := L.a4; have z4 := L.z4; have v4 := L.v4; have tU := L.tU; have tS := L.tS; have aS := L.aS; have zS := L.zS; have vS := L.vS; have tF := L.tF; have aF := L.aF; have zF := L.zF; have vF := L.vF; have aE := L.aE; have zE := L.zE; have eSw := L.eSw; have eRo := L.eRo; have eIn := L.eIn; have eSy := L.eSy; have eSt := L.eSt
  have S0 : Aside (SP enc k w0 blk off d w) := S
  clear S
  have R0 : Aside (RP enc k w0 blk off d0) := R
  have L0 : Aside (Prg P k) := L
  go_enter L.fRo, Tryd.ntmps65
  clear L R
  go_wp2
  go_loopg [10, 11] (b - a) (fun g vi vj wr => ∃ (i j : Nat) (dk : Array El), vi = .int .i64 i ∧ vj = .int .i64 j ∧ 0 < i ∧ 0 < j ∧ a + i ≤ m ∧ m + j ≤ b ∧ i + j ≤ g ∧ dk.size = d.size ∧ Aside (SP enc k w0 blk off dk wr) ∧ Aside ((∀ d' : Array El, Via (rR (m - i) m (m + j)) dk d' → Via (rR a m b) d d') ∧ PermIn a b d dk))
  case atStart => exact ⟨m - a, b - m, d, by rw [show ((m - a : Nat) : Int) = (m : Int) - (a : Int) by omega], by rw [show ((b - m : Nat) : Int) = (b : Int) - (m : Int) by omega], by omega, by omega, by omega, by omega, by omega, rfl, S0, ⟨fun d' h => by rwa [show m - (m - a) = a by omega, show m + (b - m) = b by omega] at h, permIn_refl _ _ _⟩⟩
  case round =>
    clear S0
    obtain ⟨i, j, dk, rfl, rfl, hi0, hj0, hia, hjb, hg, hds, S1, V1⟩ := hrel
    have emi : ((m - i : Nat) : Int) = (m : Int) - (i : Int) := by omega
    by_cases hne : i = j
    · subst hne
      have hneB : ((i : Int) != (i : Int)) = false := by simp
      have hcall := swapRange_any L0.out enc blk off cap (m - i) m i d0 dk w0 wr cf R0.out (by omega) S1.out (by omega) (by omega) (by omega)
      rw [hds, emi] at hcall
      go_wp2_with (go_at_fn 71; refine hcall.mono ?_; rintro e w2 ⟨rfl, d2, S2, V2, P2⟩)
      go_end0
      refine ⟨rfl, d2, S2, V1.out.1 d2 ⟨V2.1, fun t ht => by rw [V2.2 t ht, rot_end (by omega)]⟩, perm_on V1.out.2 (perm_sub P2 (by omega) (by omega) (by omega))⟩
    · have hneB : ((i : Int) != (j : Int)) = true := by simp; omega
      by_cases hgt : j < i
      · have hgtz : (j : Int) < (i : Int) := by omega
        have hcall := swapRange_any L0.out enc blk off cap (m - i) m j d0 dk w0 wr cf R0.out (by omega) S1.out (by omega) (by omega) (by omega)
        rw [hds, emi] at hcall
        go_wp2_with (go_at_fn 71; refine hcall.mono ?_; rintro e w2 ⟨rfl, d2, S2, V2, P2⟩)
        go_roundg (i - j + j)
        case measure => omega
        case rel =>
          refine ⟨i - j, j, d2, by rw [show ((i - j : Nat) : Int) = (i : Int) - (j : Int) by omega], rfl, by omega, hj0, by omega, hjb, Nat.le_refl _, by rw [V2.1]; exact hds, S2, ⟨fun d' h => V1.out.1 d' ⟨by rw [h.1, V2.1], fun t ht => ?_⟩, perm_on V1.out.2 (perm_sub P2 (by omega) (by omega) (by omega))⟩⟩
          rw [h.2 t (by rw [V2.1]; exact ht), V2.2 _ (rot_lt (by omega) (by omega) (by omega) t ht), rot_step1 (by omega) hgt]
      · have hgtz : ¬ (j : Int) < (i : Int) := by omega
        have hgtB : decide ((i : Int) > (j : Int)) = false := by simp; omega
        have hcall := swapRange_any L0.out enc blk off cap (m - i) (m + j - i) i d0 dk w0 wr cf R0.out (by omega) S1.out (by omega) (by omega) (by omega)
        rw [hds, emi, show ((m + j - i : Nat) : Int) = (m : Int) + (j : Int) - (i : Int) by omega] at hcall
        go_wp2_with (go_at_fn 71; refine hcall.mono ?_; rintro e w2 ⟨rfl, d2, S2, V2, P2⟩)
        go_roundg (i + (j - i))
        case measure => omega
        case rel =>
          refine ⟨i, j - i, d2, rfl, by rw [show ((j - i : Nat) : Int) = (j : Int) - (i : Int) by omega], hi0, by omega, hia, by omega, Nat.le_refl _, by rw [V2.1]; exact hds, S2, ⟨fun d' h => V1.out.1 d' ⟨by rw [h.1, V2.1], fun t ht => ?_⟩, perm_on V1.out.2 (perm_sub P2 (by omega) (by omega) (by omega))⟩⟩
          rw [h.2 t (by rw [V2.1]; exact ht), V2.2 _ (rot_lt (by omega) (by omega) (by omega) t ht), rot_step2 (by omega) (by omega)]
end Go.Proofs.YtkhjkodeolaemaaDoor
