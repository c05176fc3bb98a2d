/- Texts that stand together. -/
import Derived.Test.YtnlnkjaapdefiaaGreatDoorMthP
import Derived.Test.YtnlnkjaapdefiaaGreatDoorBasP
import Derived.Shelf.SlSortCmp.KitK
import Derived.Sort.WalkB2
import Derived.Sort.WalkB12
import Derived.Deep.LoopGhost
import Derived.Deep.DeepCutAuto
/- Layer 7: the stable sort's parts over rows of places, in whatever program bears them: two rows change places; of two rows, one behind the other, each takes the other's place. -/
namespace Go.Proofs.YtnlnkjaapdefiaaGreatDoor
set_option linter.unusedSimpArgs false
set_option linter.unusedVariables false
open Go.Shelf Go.RowKit Go.Lib Go.Sort
open Stb
/-- what is asked of a program: the sort's functions, the types that these use, an element of k cells -/
structure Prg (P : Program) (k : Nat) : Prop where
  mixed : P.follows .mixedOrders = true
  t0 : P.underlying 0 = some (TypeDesc.tuple #[])
  a0 : ∀ w, (isAgg 0).run P w = .ok false w
  z0 : ∀ w, (Go.sizeOf 0).run P w = .ok 1 w
  v0 : ∀ w, (zeroValue 0).run P w = .ok (Value.tuple #[]) w
  t3 : P.underlying 3 = some (TypeDesc.int IntKind.i64)
  a3 : ∀ w, (isAgg 3).run P w = .ok false w
  z3 : ∀ w, (Go.sizeOf 3).run P w = .ok 1 w
  v3 : ∀ w, (zeroValue 3).run P w = .ok (Value.int IntKind.i64 0) w
  t4 : P.underlying 4 = some (TypeDesc.bool)
  a4 : ∀ w, (isAgg 4).run P w = .ok false w
  z4 : ∀ w, (Go.sizeOf 4).run P w = .ok 1 w
  v4 : ∀ w, (zeroValue 4).run P w = .ok (Value.bool false) w
  tU : P.underlying 167 = some (TypeDesc.int IntKind.u64)
  tS : P.underlying 100 = some (TypeDesc.slice 104)
  aS : ∀ w, (isAgg 100).run P w = .ok false w
  zS : ∀ w, (Go.sizeOf 100).run P w = .ok 1 w
  vS : ∀ w, (zeroValue 100).run P w = .ok (Value.slice none 0 0) w
  tF : P.underlying 105 = some (TypeDesc.func #[104, 104] #[3] false)
  aF : ∀ w, (isAgg 105).run P w = .ok false w
  zF : ∀ w, (Go.sizeOf 105).run P w = .ok 1 w
  vF : ∀ w, (zeroValue 105).run P w = .ok (Value.nilFunc) w
  aE : ∀ w, (isAgg 104).run P w = .ok true w
  zE : ∀ w, (Go.sizeOf 104).run P w = .ok k w
  fSw : P.funcs[189]? = some Tryz.f189
  fRo : P.funcs[175]? = some Tryz.f175
  fIn : P.funcs[156]? = some Tryz.f156
  fSy : P.funcs[157]? = some Tryz.f157
  fSt : P.funcs[119]? = some Tryz.f119
  eSw : ∀ args w, (callFunc 189 args).run P w = .ok (.enter 189 args) w
  eRo : ∀ args w, (callFunc 175 args).run P w = .ok (.enter 175 args) w
  eIn : ∀ args w, (callFunc 156 args).run P w = .ok (.enter 156 args) w
  eSy : ∀ args w, (callFunc 157 args).run P w = .ok (.enter 157 args) w
  eSt : ∀ args w, (callFunc 119 args).run P w = .ok (.enter 119 args) w
/-- the row, in a world of the sort's -/
abbrev SP (enc : El → List Value) (k : Nat) (w0 : World) (blk off : Nat) (d : Array El) (w : World) : Prop := SWK enc k w0 blk off d w
abbrev RP (enc : El → List Value) (k : Nat) (w0 : World) (blk off : Nat) (d0 : Array El) : Prop := RowK enc k w0 blk off d0
/-- what such a call comes to: the row is another one, of which F holds -/
def Rowed (enc : El → List Value) (k : Nat) (w0 : World) (blk off : Nat) (F : Array El → Prop) (e : Ending) (w' : World) : Prop := e = .returned (.tuple #[]) ∧ ∃ d' : Array El, SP enc k w0 blk off d' w' ∧ F d'
variable {P : Program} {k : Nat}
set_option maxHeartbeats 4000000 in
set_option maxRecDepth 1000000 in
theorem swapRange_any (L : Prg P k) (enc : El → List Value) (blk off cap a b n : Nat) (d0 d : Array El) (w0 w : World) (cf : Value)
    (R : RP enc k w0 blk off d0) (hs : d0.size = d.size) (S : SP enc k w0 blk off d w) (hab : a + n ≤ b) (hb : b + n ≤ d.size) (hsz : d.size < 4611686018427387904) :
    Calls P 189 #[.slice (some ⟨blk, off, none⟩) d.size cap, .int .i64 a, .int .i64 b, .int .i64 n, cf] w
      (Rowed enc k w0 blk off fun d' => Via (sR a b n) d d' ∧ PermIn a (b + n) d d') := by
  have mixed := L.mixed; have t0 := L.t0; have a0 := L.a0; have z0 := L.z0; have v0 := L.v0; have t3 := L.t3; have a3 := L.a3; have z3 := L.z3; have v3 := L.v3; have t4 := L.t4; have a4 := L.a4; have z4 := L.z4; have v4 := L.v4; have tU := L.tU; have tS := L.tS; have aS := L.aS; have zS := L.zS; have vS := L.vS; have tF := L.tF; have aF := L.aF; have zF := L.zF; have vF := L.vF; have aE := L.aE; have zE := L.zE; have eSw := L.eSw; have eRo := L.eRo; have eIn := L.eIn; have eSy := L.eSy; have eSt := L.eSt
  have S0 : Aside (SP enc k w0 blk off d w) := S
  clear S
  go_enter L.fSw, Tryz.ntmps189
  go_wp2
  go_loopg [10] n (fun g vi wr => ∃ (i : Nat) (dk : Array El), vi = .int .i64 i ∧ i ≤ n ∧ g = n - i ∧ dk.size = d.size ∧ Aside (SP enc k w0 blk off dk wr) ∧ Aside (Via (sR a b i) d dk ∧ PermIn a (b + n) d dk))
  case atStart => exact ⟨0, d, rfl, Nat.zero_le _, rfl, rfl, S0, ⟨⟨rfl, fun t _ => by congr 1; unfold sR; (repeat' split) <;> omega⟩, permIn_refl _ _ _⟩⟩
  case round =>
    clear S0
    obtain ⟨i, dk, rfl, hin, rfl, hds, S1, V1⟩ := hrel
    by_cases hlt : i < n
    · have hltz : (i : Int) < (n : Int) := by omega
      have eea : ((a : Int) + (i : Int)).toNat = a + i := by omega
      have pea : (0 : Int) ≤ (a : Int) + (i : Int) := by omega
      have bea : (a : Int) + (i : Int) < (d.size : Int) := by omega
      have rea : IntKind.i64.wrap ((a : Int) + (i : Int)) = (a : Int) + (i : Int) := by rw [IntKind.wrap_i64]; omega
      have eeb : ((b : Int) + (i : Int)).toNat = b + i := by omega
      have peb : (0 : Int) ≤ (b : Int) + (i : Int) := by omega
      have beb : (b : Int) + (i : Int) < (d.size : Int) := by omega
      have reb : IntKind.i64.wrap ((b : Int) + (i : Int)) = (b : Int) + (i : Int) := by rw [IntKind.wrap_i64]; omega
      have S2 : Aside (SP enc k w0 blk off (swp dk (a + i) (b + i)) ((wr.drew.setCells blk (off + (a + i) * k) (enc dk[b + i]!)).setCells blk (off + (b + i) * k) (enc dk[a + i]!))) := S1.out.swapped R (a + i) (b + i) (by omega) (by omega)
      have l1 := S1.out.ld1 R (by omega) P (a + i) (by omega)
      have l2 := S1.out.ld1 R (by omega) P (b + i) (by omega)
      have s1 := S1.out.st1 R (by omega) P (a + i) (by omega) dk[b + i]!
      have s2 := S1.out.st2 R (by omega) P (a + i) (b + i) (by omega) (by omega) dk[b + i]! dk[a + i]!
      have n1 : (enc dk[a + i]!).length = k := R.hk _
      have n2 : (enc dk[b + i]!).length = k := R.hk _
      generalize enc dk[a + i]! = cI at S2 l1 s2 n1
      generalize enc dk[b + i]! = cJ at S2 l2 s1 s2 n2
      clear S1
      go_wp2_with fail
      go_big_region_o
      clear l1 l2 s1 s2
      generalize (wr.drew.setCells blk (off + (a + i) * k) cJ).setCells blk (off + (b + i) * k) cI = w2 at S2 ⊢
      go_wp2
      go_roundg (n - (i + 1))
      case measure => omega
      case rel => exact ⟨i + 1, _, by go_num, by omega, rfl, by rw [size_swp]; exact hds, S2, ⟨via_swap_more hab (by omega) hlt V1.out.1, perm_swp V1.out.2 hb (by omega) (by omega)⟩⟩
    · obtain rfl : n = i := by omega
      go_wp2
      go_end0
      exact ⟨rfl, dk, S1.out, V1.out.1, V1.out.2⟩
set_option maxHeartbeats 4000000 in
set_option maxRecDepth 1000000 in
theorem rotate_any (L : Prg P k) (enc : El → List Value) (blk off cap a m b : Nat) (d0 d : Array El) (w0 w : World) (cf : Value)
    (R : RP enc k w0 blk off d0) (hs : d0.size = d.size) (S : SP enc k w0 blk off d w) (ham : a < m) (hmb : m < b) (hb : b ≤ d.size) (hsz : d.size < 4611686018427387904) :
    Calls P 175 #[.slice (some ⟨blk, off, none⟩) d.size cap, .int .i64 a, .int .i64 m, .int .i64 b, cf] w
      (Rowed enc k w0 blk off fun d' => Via (rR a m b) d d' ∧ PermIn a b d d') := by
  have mixed := L.mixed; have t0 := L.t0; have a0 := L.a0; have z0 := L.z0; have v0 := L.v0; have t3 := L.t3; have a3 := L.a3; have z3 := L.z3; have v3 := L.v3; have t4 := L.t4; have a4 := L.a4; have z4 := L.z4; have v4 := L.v4; have tU := L.tU; have tS := L.tS; have aS := L.aS; have zS := L.zS; have vS := L.vS; have tF := L.tF; have aF := L.aF; have zF := L.zF; have vF := L.vF; have aE := L.aE; have zE := L.zE; have eSw := L.eSw; have eRo := L.eRo; have eIn := L.eIn; have eSy := L.eSy; have eSt := L.eSt
  have S0 : Aside (SP enc k w0 blk off d w) := S
  clear S
  have R0 : Aside (RP enc k w0 blk off d0) := R
  have L0 : Aside (Prg P k) := L
  go_enter L.fRo, Tryz.ntmps175
  clear L R
  go_wp2
  go_loopg [10, 11] (b - a) (fun g vi vj wr => ∃ (i j : Nat) (dk : Array El), vi = .int .i64 i ∧ vj = .int .i64 j ∧ 0 < i ∧ 0 < j ∧ a + i ≤ m ∧ m + j ≤ b ∧ i + j ≤ g ∧ dk.size = d.size ∧ Aside (SP enc k w0 blk off dk wr) ∧ Aside ((∀ d' : Array El, Via (rR (m - i) m (m + j)) dk d' → Via (rR a m b) d d') ∧ PermIn a b d dk))
  case atStart => exact ⟨m - a, b - m, d, by rw [show ((m - a : Nat) : Int) = (m : Int) - (a : Int) by omega], by rw [show ((b - m : Nat) : Int) = (b : Int) - (m : Int) by omega], by omega, by omega, by omega, by omega, by omega, rfl, S0, ⟨fun d' h => by rwa [show m - (m - a) = a by omega, show m + (b - m) = b by omega] at h, permIn_refl _ _ _⟩⟩
  case round =>
    clear S0
    obtain ⟨i, j, dk, rfl, rfl, hi0, hj0, hia, hjb, hg, hds, S1, V1⟩ := hrel
    have emi : ((m - i : Nat) : Int) = (m : Int) - (i : Int) := by omega
    by_cases hne : i = j
    · subst hne
      have hneB : ((i : Int) != (i : Int)) = false := by simp
      have hcall := swapRange_any L0.out enc blk off cap (m - i) m i d0 dk w0 wr cf R0.out (by omega) S1.out (by omega) (by omega) (by omega)
      rw [hds, emi] at hcall
      go_wp2_with (go_at_fn 189; refine hcall.mono ?_; rintro e w2 ⟨rfl, d2, S2, V2, P2⟩)
      go_end0
      refine ⟨rfl, d2, S2, V1.out.1 d2 ⟨V2.1, fun t ht => by rw [V2.2 t ht, rot_end (by omega)]⟩, perm_on V1.out.2 (perm_sub P2 (by omega) (by omega) (by omega))⟩
    · have hneB : ((i : Int) != (j : Int)) = true := by simp; omega
      by_cases hgt : j < i
      · have hgtz : (j : Int) < (i : Int) := by omega
        have hcall := swapRange_any L0.out enc blk off cap (m - i) m j d0 dk w0 wr cf R0.out (by omega) S1.out (by omega) (by omega) (by omega)
        rw [hds, emi] at hcall
        go_wp2_with (go_at_fn 189; refine hcall.mono ?_; rintro e w2 ⟨rfl, d2, S2, V2, P2⟩)
        go_roundg (i - j + j)
        case measure => omega
        case rel =>
          refine ⟨i - j, j, d2, by rw [show ((i - j : Nat) : Int) = (i : Int) - (j : Int) by omega], rfl, by omega, hj0, by omega, hjb, Nat.le_refl _, by rw [V2.1]; exact hds, S2, ⟨fun d' h => V1.out.1 d' ⟨by rw [h.1, V2.1], fun t ht => ?_⟩, perm_on V1.out.2 (perm_sub P2 (by omega) (by omega) (by omega))⟩⟩
          rw [h.2 t (by rw [V2.1]; exact ht), V2.2 _ (rot_lt (by omega) (by omega) (by omega) t ht), rot_step1 (by omega) hgt]
      · have hgtz : ¬ (j : Int) < (i : Int) := by omega
        have hgtB : decide ((i : Int) > (j : Int)) = false := by simp; omega
        have hcall := swapRange_any L0.out enc blk off cap (m - i) (m + j - i) i d0 dk w0 wr cf R0.out (by omega) S1.out (by omega) (by omega) (by omega)
        rw [hds, emi, show ((m + j - i : Nat) : Int) = (m : Int) + (j : Int) - (i : Int) by omega] at hcall
        go_wp2_with (go_at_fn 189; refine hcall.mono ?_; rintro e w2 ⟨rfl, d2, S2, V2, P2⟩)
        go_roundg (i + (j - i))
        case measure => omega
        case rel =>
          refine ⟨i, j - i, d2, rfl, by rw [show ((j - i : Nat) : Int) = (j : Int) - (i : Int) by omega], hi0, by omega, hia, by omega, Nat.le_refl _, by rw [V2.1]; exact hds, S2, ⟨fun d' h => V1.out.1 d' ⟨by rw [h.1, V2.1], fun t ht => ?_⟩, perm_on V1.out.2 (perm_sub P2 (by omega) (by omega) (by omega))⟩⟩
          rw [h.2 t (by rw [V2.1]; exact ht), V2.2 _ (rot_lt (by omega) (by omega) (by omega) t ht), rot_step2 (by omega) (by omega)]
end Go.Proofs.YtnlnkjaapdefiaaGreatDoor

/- Layer 7: the stable sort's parts over rows of places: a short row is put in order, one by one. -/
namespace Go.Proofs.YtnlnkjaapdefiaaGreatDoor
set_option linter.unusedSimpArgs false
set_option linter.unusedVariables false
open Go.Shelf Go.RowKit Go.Lib Go.Sort
open Stb
variable {P : Program} {k : Nat}
theorem ah_of_perm {a i b : Nat} {d dk : Array El} (p : PermIn a i d dk) (hi : i ≤ d.size) (h : ∀ x y, a ≤ x → x < y → y < b → (d[x]!).2.2.2 < (d[y]!).2.2.2) : Ah dk a i b := fun x y h1 h2 h3 h4 => by
  rw [p.2.1 y (Or.inr h3)]
  exact permIn_all d dk a i (fun e => e.2.2.2 < (d[y]!).2.2.2) hi p (fun z z1 z2 => h z y z1 (by omega) h4) x h1 h2
set_option maxHeartbeats 4000000 in
set_option maxRecDepth 1000000 in
theorem insertion_any (L : Prg P k) (enc : El → List Value) (cf : El → El → Int) (hk : ∀ x y, cf x y < 0 ↔ KL x y) (g : Nat) (cb : Array Value) (blk off cap a b : Nat) (d0 d : Array El) (w0 w : World)
    (eg : ∀ args w, (callFunc g args).run P w = .ok (.enter g args) w) (hcmp : CmpLays P g cb enc k cf blk off d0.size w0)
    (R : RP enc k w0 blk off d0) (hs : d0.size = d.size) (S : SP enc k w0 blk off d w) (hab : a ≤ b) (hb : b ≤ d.size) (hsz : d.size < 4611686018427387904)
    (hid : ∀ i j, a ≤ i → i < j → j < b → (d[i]!).2.2.2 < (d[j]!).2.2.2) :
    Calls P 156 #[.slice (some ⟨blk, off, none⟩) d.size cap, .int .i64 a, .int .i64 b, .func (.func g) #[] cb] w
      (Rowed enc k w0 blk off fun d' => St d' a b ∧ PermIn a b d d') := by
  have mixed := L.mixed; have t0 := L.t0; have a0 := L.a0; have z0 := L.z0; have v0 := L.v0; have t3 := L.t3; have a3 := L.a3; have z3 := L.z3; have v3 := L.v3; have t4 := L.t4; have a4 := L.a4; have z4 := L.z4; have v4 := L.v4; have tU := L.tU; have tS := L.tS; have aS := L.aS; have zS := L.zS; have vS := L.vS; have tF := L.tF; have aF := L.aF; have zF := L.zF; have vF := L.vF; have aE := L.aE; have zE := L.zE; have eSw := L.eSw; have eRo := L.eRo; have eIn := L.eIn; have eSy := L.eSy; have eSt := L.eSt
  have S0 : Aside (SP enc k w0 blk off d w) := S
  have HC : Aside _ := hcmp
  have HK : Aside _ := hk
  have HI : Aside _ := hid
  clear S hcmp hk hid
  go_enter L.fIn, Tryz.ntmps156
  go_wp2
  go_loopg [8] (b + 1 - a) (fun g1 vi wr => ∃ (i : Nat) (dk : Array El), vi = .int .i64 i ∧ a < i ∧ (i ≤ b ∨ i = a + 1) ∧ b + 1 - i ≤ g1 ∧ dk.size = d.size ∧ Aside (SP enc k w0 blk off dk wr) ∧ Aside ((i ≤ b → St dk a i ∧ PermIn a i d dk) ∧ (b < i → dk = d)))
  case atStart => exact ⟨a + 1, d, by go_num, by omega, Or.inr rfl, by omega, rfl, S0, ⟨fun _ => ⟨st_one _ _, permIn_refl _ _ _⟩, fun _ => rfl⟩⟩
  case round =>
    clear S0
    obtain ⟨i, dk, rfl, hai, hib, hg1, hds, S1, V1⟩ := hrel
    by_cases hlt : i < b
    · have hltz : (i : Int) < (b : Int) := by omega
      have V2 : Aside (St dk a i ∧ PermIn a i d dk) := V1.out.1 (by omega)
      clear V1
      go_wp2
      go_loopg [9] i (fun g2 vj wr2 => ∃ (j : Nat) (dj : Array El), vj = .int .i64 j ∧ a ≤ j ∧ j ≤ i ∧ j ≤ g2 ∧ dj.size = d.size ∧ Aside (SP enc k w0 blk off dj wr2) ∧ Aside (Via (dR j i) dk dj ∧ PermIn a (i + 1) d dj ∧ (j = i ∨ KL dk[i]! dk[j]!)))
      case atStart => exact ⟨i, dk, rfl, by omega, Nat.le_refl _, Nat.le_refl _, hds, S1, ⟨via_down0 _ _, perm_sub V2.out.2 (Nat.le_refl _) (by omega) (by omega), Or.inl rfl⟩⟩
      case round =>
        clear S1
        obtain ⟨j, dj, rfl, haj, hji, hg2, hsj, S1, V3⟩ := hrel
        have out : (j = a ∨ ¬ KL dk[i]! dk[j - 1]!) → Aside (St dj a (i + 1) ∧ PermIn a (i + 1) d dj) := fun hst =>
          ⟨insert_down V3.out.1 (by omega) haj hji V2.out.1 (ah_of_perm V2.out.2 (by omega) (fun x y h1 h2 h3 => HI.out x y h1 h2 (by omega))) hst V3.out.2.2, V3.out.2.1⟩
        have OUT : Aside _ := out
        clear out
        by_cases hja : a < j
        · have hjaz : (a : Int) < (j : Int) := by omega
          obtain ⟨jp, rfl⟩ : ∃ jp, j = jp + 1 := ⟨j - 1, by omega⟩
          have hjaz' : (a : Int) < (jp : Int) + 1 := by omega
          have hej : dj[jp + 1]! = dk[i]! := by
            rw [V3.out.1.2 _ (by omega)]
            unfold dR
            rw [if_pos rfl]
          have hep : dj[jp]! = dk[jp]! := by
            rw [V3.out.1.2 _ (by omega)]
            unfold dR
            rw [if_neg (by omega), if_neg (by omega)]
          by_cases hq : KL dj[jp + 1]! dj[jp]!
          · have HQ : Aside (KL dk[i]! dk[jp]!) := by rw [hej, hep] at hq; exact hq
            clear hej hep
            have eea : ((jp : Int) + 1).toNat = jp + 1 := by omega
            have pea : (0 : Int) ≤ (jp : Int) + 1 := by omega
            have bea : (jp : Int) + 1 < (d.size : Int) := by omega
            have rea : IntKind.i64.wrap ((jp : Int) + 1) = (jp : Int) + 1 := by rw [IntKind.wrap_i64]; omega
            have eeb : ((jp : Int)).toNat = jp := by omega
            have peb : (0 : Int) ≤ (jp : Int) := by omega
            have beb : (jp : Int) < (d.size : Int) := by omega
            have reb : IntKind.i64.wrap ((jp : Int)) = (jp : Int) := by rw [IntKind.wrap_i64]; omega
            obtain ⟨xa, hxa⟩ : ∃ zz, zz = dj[jp + 1]! := ⟨_, rfl⟩
            obtain ⟨xb, hxb⟩ : ∃ zz, zz = dj[jp]! := ⟨_, rfl⟩
            have l1 := S1.out.ld R (by omega) P (jp + 1) (by omega)
            have l2 := S1.out.ld R (by omega) P (jp) (by omega)
            rw [← hxa] at l1
            rw [← hxb] at l2
            have hc := S1.out.cmp HC.out (by omega) xa xb
            have hv : cf xa xb < 0 := by rw [hxa, hxb]; exact (HK.out _ _).2 hq
            have hd : decide (cf xa xb < 0) = true := decide_eq_true hv
            clear hxa hxb
            go_wp2_with fail
            go_quiet_grown (first | (go_at_fn g; refine Calls.grown_of (hc _ _)))
            have S2 : Aside (SP enc k w0 blk off dj (grow (wr.drewN nq) osq)) := S1.out.grown nq osq
            clear l1 l2 hc S1
            generalize grow (wr.drewN nq) osq = w2 at S2 ⊢
            clear nq osq
            clear hq
            have eea : ((jp : Int) + 1).toNat = jp + 1 := by omega
            have pea : (0 : Int) ≤ (jp : Int) + 1 := by omega
            have bea : (jp : Int) + 1 < (d.size : Int) := by omega
            have rea : IntKind.i64.wrap ((jp : Int) + 1) = (jp : Int) + 1 := by rw [IntKind.wrap_i64]; omega
            have eeb : ((jp : Int)).toNat = jp := by omega
            have peb : (0 : Int) ≤ (jp : Int) := by omega
            have beb : (jp : Int) < (d.size : Int) := by omega
            have reb : IntKind.i64.wrap ((jp : Int)) = (jp : Int) := by rw [IntKind.wrap_i64]; omega
            have S3 : Aside (SP enc k w0 blk off (swp dj (jp + 1) (jp)) ((w2.drew.setCells blk (off + (jp + 1) * k) (enc dj[jp]!)).setCells blk (off + (jp) * k) (enc dj[jp + 1]!))) := S2.out.swapped R (jp + 1) (jp) (by omega) (by omega)
            have l1 := S2.out.ld1 R (by omega) P (jp + 1) (by omega)
            have l2 := S2.out.ld1 R (by omega) P (jp) (by omega)
            have s1 := S2.out.st1 R (by omega) P (jp + 1) (by omega) dj[jp]!
            have s2 := S2.out.st2 R (by omega) P (jp + 1) (jp) (by omega) (by omega) dj[jp]! dj[jp + 1]!
            have n1 : (enc dj[jp + 1]!).length = k := R.hk _
            have n2 : (enc dj[jp]!).length = k := R.hk _
            generalize enc dj[jp + 1]! = cI at S3 l1 s2 n1
            generalize enc dj[jp]! = cJ at S3 l2 s1 s2 n2
            clear S2
            go_wp2_with fail
            go_big_region_o
            clear l1 l2 s1 s2
            generalize (w2.drew.setCells blk (off + (jp + 1) * k) cJ).setCells blk (off + (jp) * k) cI = w3 at S3 ⊢
            go_wp2
            go_roundg jp
            case measure => omega
            case rel => exact ⟨jp, swp dj (jp + 1) jp, by first | rfl | go_num | (congr 1; omega), by omega, by omega, Nat.le_refl _, by rw [size_swp]; exact hsj, S3, ⟨via_down (by omega) (by omega) V3.out.1, perm_swp V3.out.2.1 (by omega) (by omega) (by omega), Or.inr HQ.out⟩⟩
          · have HQ : Aside (¬ KL dk[i]! dk[jp]!) := by rw [hej, hep] at hq; exact hq
            clear hej hep
            have eea : ((jp : Int) + 1).toNat = jp + 1 := by omega
            have pea : (0 : Int) ≤ (jp : Int) + 1 := by omega
            have bea : (jp : Int) + 1 < (d.size : Int) := by omega
            have rea : IntKind.i64.wrap ((jp : Int) + 1) = (jp : Int) + 1 := by rw [IntKind.wrap_i64]; omega
            have eeb : ((jp : Int)).toNat = jp := by omega
            have peb : (0 : Int) ≤ (jp : Int) := by omega
            have beb : (jp : Int) < (d.size : Int) := by omega
            have reb : IntKind.i64.wrap ((jp : Int)) = (jp : Int) := by rw [IntKind.wrap_i64]; omega
            obtain ⟨xa, hxa⟩ : ∃ zz, zz = dj[jp + 1]! := ⟨_, rfl⟩
            obtain ⟨xb, hxb⟩ : ∃ zz, zz = dj[jp]! := ⟨_, rfl⟩
            have l1 := S1.out.ld R (by omega) P (jp + 1) (by omega)
            have l2 := S1.out.ld R (by omega) P (jp) (by omega)
            rw [← hxa] at l1
            rw [← hxb] at l2
            have hc := S1.out.cmp HC.out (by omega) xa xb
            have hv : ¬ cf xa xb < 0 := by rw [hxa, hxb]; exact fun h => hq ((HK.out _ _).1 h)
            have hd : decide (cf xa xb < 0) = false := decide_eq_false hv
            clear hxa hxb
            go_wp2_with fail
            go_quiet_grown (first | (go_at_fn g; refine Calls.grown_of (hc _ _)))
            have S2 : Aside (SP enc k w0 blk off dj (grow (wr.drewN nq) osq)) := S1.out.grown nq osq
            clear l1 l2 hc S1
            generalize grow (wr.drewN nq) osq = w2 at S2 ⊢
            clear nq osq
            clear hq
            go_wp2
            go_roundg (b + 1 - (i + 1))
            case measure => omega
            case rel => exact ⟨i + 1, dj, by go_num, by omega, by omega, Nat.le_refl _, hsj, S2, ⟨fun _ => OUT.out (Or.inr (by simp only [Nat.add_sub_cancel]; exact HQ.out)), fun h => by omega⟩⟩
        · have hjaB : decide ((j : Int) > (a : Int)) = false := decide_eq_false (by omega)
          have hjaz' : ¬ (a : Int) < (j : Int) := by omega
          have S2 : Aside (SP enc k w0 blk off dj wr.drew) := S1.out.drew
          clear S1
          go_wp2_with fail
          go_big_region_o
          all_goals go_wp2
          go_roundg (b + 1 - (i + 1))
          case measure => omega
          case rel => exact ⟨i + 1, dj, by go_num, by omega, by omega, Nat.le_refl _, hsj, S2, ⟨fun _ => OUT.out (Or.inl (by omega)), fun h => by omega⟩⟩
    · have hltz : ¬ (i : Int) < (b : Int) := by omega
      go_wp2
      go_end0
      rcases Nat.lt_or_ge b i with h | h
      · rw [V1.out.2 h] at S1
        exact ⟨rfl, d, S1.out, fun x y h1 h2 h3 => by omega, permIn_refl _ _ _⟩
      · have h2 := V1.out.1 h
        rw [show i = b by omega] at h2
        exact ⟨rfl, dk, S1.out, h2⟩
end Go.Proofs.YtnlnkjaapdefiaaGreatDoor

/- Layer 7: the stable sort's parts over rows of places: two rows that are in order, one behind the other, become one. -/
namespace Go.Proofs.YtnlnkjaapdefiaaGreatDoor
set_option linter.unusedSimpArgs false
set_option linter.unusedVariables false
open Go.Shelf Go.RowKit Go.Lib Go.Sort
open Stb
variable {P : Program} {k : Nat}
/-- what a merge of [a, m) and [m, b) comes to -/
def Merges (P : Program) (k : Nat) (enc : El → List Value) (g : Nat) (cb : Array Value) (blk off cap : Nat) (d0 : Array El) (w0 : World) (n : Nat) : Prop :=
  ∀ (a m b : Nat) (d : Array El) (w : World), b - a ≤ n → d0.size = d.size → SP enc k w0 blk off d w → a < m → m < b → b ≤ d.size → St d a m → St d m b → Ah d a m b →
    Calls P 157 #[.slice (some ⟨blk, off, none⟩) d.size cap, .int .i64 a, .int .i64 m, .int .i64 b, .func (.func g) #[] cb] w
      (Rowed enc k w0 blk off fun d' => St d' a b ∧ PermIn a b d d')
set_option maxHeartbeats 8000000 in
set_option maxRecDepth 1000000 in
theorem merge_one (L : Prg P k) (enc : El → List Value) (cf : El → El → Int) (hk : ∀ x y, cf x y < 0 ↔ KL x y) (g : Nat) (cb : Array Value) (blk off cap a b : Nat) (d0 d : Array El) (w0 w : World)
    (eg : ∀ args w, (callFunc g args).run P w = .ok (.enter g args) w) (hcmp : CmpLays P g cb enc k cf blk off d0.size w0)
    (R : RP enc k w0 blk off d0) (hs : d0.size = d.size) (S : SP enc k w0 blk off d w) (hab : a + 1 < b) (hb : b ≤ d.size) (hsz : d.size < 4611686018427387904)
    (h2 : St d (a + 1) b) (ha : Ah d a (a + 1) b) :
    Calls P 157 #[.slice (some ⟨blk, off, none⟩) d.size cap, .int .i64 a, .int .i64 ((a : Int) + 1), .int .i64 b, .func (.func g) #[] cb] w
      (Rowed enc k w0 blk off fun d' => St d' a b ∧ PermIn a b d d') := by
  have mixed := L.mixed; have t0 := L.t0; have a0 := L.a0; have z0 := L.z0; have v0 := L.v0; have t3 := L.t3; have a3 := L.a3; have z3 := L.z3; have v3 := L.v3; have t4 := L.t4; have a4 := L.a4; have z4 := L.z4; have v4 := L.v4; have tU := L.tU; have tS := L.tS; have aS := L.aS; have zS := L.zS; have vS := L.vS; have tF := L.tF; have aF := L.aF; have zF := L.zF; have vF := L.vF; have aE := L.aE; have zE := L.zE; have eSw := L.eSw; have eRo := L.eRo; have eIn := L.eIn; have eSy := L.eSy; have eSt := L.eSt
  have S0 : Aside (SP enc k w0 blk off d w) := S
  have HC : Aside _ := hcmp
  have HK : Aside _ := hk
  have HO : Aside (St d (a + 1) b ∧ Ah d a (a + 1) b) := ⟨h2, ha⟩
  clear S hcmp hk h2 ha
  have hm1 : (a : Int) + 1 - (a : Int) = 1 := by omega
  go_enter L.fSy, Tryz.ntmps157
  go_wp2
  go_loopg [10, 11] (b - a) (fun g1 vi vj wr => ∃ (i j : Nat), vi = .int .i64 i ∧ vj = .int .i64 j ∧ a + 1 ≤ i ∧ i ≤ j ∧ j ≤ b ∧ j - i ≤ g1 ∧ Aside (SP enc k w0 blk off d wr) ∧ Aside ((i = a + 1 ∨ KL d[i - 1]! d[a]!) ∧ (j = b ∨ ¬ KL d[j]! d[a]!)))
  case atStart => exact ⟨a + 1, b, by go_num, rfl, Nat.le_refl _, by omega, Nat.le_refl _, by omega, S0, ⟨Or.inl rfl, Or.inl rfl⟩⟩
  case round =>
    clear S0
    obtain ⟨i, j, rfl, rfl, hai, hij, hjb, hg1, S1, V1⟩ := hrel
    by_cases hlt : i < j
    · have hltz : (i : Int) < (j : Int) := by omega
      have eh : (((i + j) / 2 : Nat) : Int) = ((i : Int) + (j : Int)) / 2 := by omega
      obtain ⟨h, hh⟩ : ∃ h, (i + j) / 2 = h := ⟨_, rfl⟩
      have hh1 : i ≤ h := by omega
      have hh2 : h < j := by omega
      have ehz : ((i : Int) + (j : Int)) / 2 = (h : Int) := by omega
      clear eh
      by_cases hq : KL d[h]! d[a]!
      · have HQ : Aside (KL d[h]! d[a]!) := hq
        have eea : ((h : Int)).toNat = h := by omega
        have pea : (0 : Int) ≤ (h : Int) := by omega
        have bea : (h : Int) < (d.size : Int) := by omega
        have rea : IntKind.i64.wrap ((h : Int)) = (h : Int) := by rw [IntKind.wrap_i64]; omega
        have eeb : ((a : Int)).toNat = a := by omega
        have peb : (0 : Int) ≤ (a : Int) := by omega
        have beb : (a : Int) < (d.size : Int) := by omega
        have reb : IntKind.i64.wrap ((a : Int)) = (a : Int) := by rw [IntKind.wrap_i64]; omega
        obtain ⟨xa, hxa⟩ : ∃ zz, zz = d[h]! := ⟨_, rfl⟩
        obtain ⟨xb, hxb⟩ : ∃ zz, zz = d[a]! := ⟨_, rfl⟩
        have l1 := S1.out.ld R (by omega) P (h) (by omega)
        have l2 := S1.out.ld R (by omega) P (a) (by omega)
        rw [← hxa] at l1
        rw [← hxb] at l2
        have hc := S1.out.cmp HC.out (by omega) xa xb
        have hv : cf xa xb < 0 := by rw [hxa, hxb]; exact (HK.out _ _).2 hq
        have hd : decide (cf xa xb < 0) = true := decide_eq_true hv
        clear hxa hxb
        go_wp2_with fail
        go_quiet_grown (first | (go_at_fn g; refine Calls.grown_of (hc _ _)))
        have S2 : Aside (SP enc k w0 blk off d (grow (wr.drewN nq) osq)) := S1.out.grown nq osq
        clear l1 l2 hc S1
        generalize grow (wr.drewN nq) osq = w2 at S2 ⊢
        clear nq osq
        clear hq
        go_wp2
        go_roundg (j - (h + 1))
        case measure => omega
        case rel => exact ⟨h + 1, j, by go_num, rfl, by omega, by omega, hjb, Nat.le_refl _, S2, ⟨Or.inr (by simp only [Nat.add_sub_cancel]; exact HQ.out), V1.out.2⟩⟩
      · have HQ : Aside (¬ KL d[h]! d[a]!) := hq
        have eea : ((h : Int)).toNat = h := by omega
        have pea : (0 : Int) ≤ (h : Int) := by omega
        have bea : (h : Int) < (d.size : Int) := by omega
        have rea : IntKind.i64.wrap ((h : Int)) = (h : Int) := by rw [IntKind.wrap_i64]; omega
        have eeb : ((a : Int)).toNat = a := by omega
        have peb : (0 : Int) ≤ (a : Int) := by omega
        have beb : (a : Int) < (d.size : Int) := by omega
        have reb : IntKind.i64.wrap ((a : Int)) = (a : Int) := by rw [IntKind.wrap_i64]; omega
        obtain ⟨xa, hxa⟩ : ∃ zz, zz = d[h]! := ⟨_, rfl⟩
        obtain ⟨xb, hxb⟩ : ∃ zz, zz = d[a]! := ⟨_, rfl⟩
        have l1 := S1.out.ld R (by omega) P (h) (by omega)
        have l2 := S1.out.ld R (by omega) P (a) (by omega)
        rw [← hxa] at l1
        rw [← hxb] at l2
        have hc := S1.out.cmp HC.out (by omega) xa xb
        have hv : ¬ cf xa xb < 0 := by rw [hxa, hxb]; exact fun h => hq ((HK.out _ _).1 h)
        have hd : decide (cf xa xb < 0) = false := decide_eq_false hv
        clear hxa hxb
        go_wp2_with fail
        go_quiet_grown (first | (go_at_fn g; refine Calls.grown_of (hc _ _)))
        have S2 : Aside (SP enc k w0 blk off d (grow (wr.drewN nq) osq)) := S1.out.grown nq osq
        clear l1 l2 hc S1
        generalize grow (wr.drewN nq) osq = w2 at S2 ⊢
        clear nq osq
        clear hq
        go_wp2
        go_roundg (h - i)
        case measure => omega
        case rel => exact ⟨i, h, rfl, rfl, hai, hh1, by omega, Nat.le_refl _, S2, ⟨V1.out.1, Or.inr HQ.out⟩⟩
    · obtain rfl : i = j := by omega
      have hltz : ¬ (i : Int) < (i : Int) := by omega
      go_wp2
      go_loopg [13] (i - a) (fun g1 vk wr2 => ∃ (q : Nat) (dk : Array El), vk = .int .i64 q ∧ a ≤ q ∧ q ≤ i - 1 ∧ i - 1 - q ≤ g1 ∧ dk.size = d.size ∧ Aside (SP enc k w0 blk off dk wr2) ∧ Aside (Via (uR a q) d dk ∧ PermIn a b d dk))
      case atStart => exact ⟨a, d, rfl, Nat.le_refl _, by omega, by omega, rfl, S1, ⟨via_up0 _ _, permIn_refl _ _ _⟩⟩
      case round =>
        clear S1
        obtain ⟨q, dk, rfl, haq, hqi, hg2, hds, S1, V2⟩ := hrel
        by_cases hlt2 : q < i - 1
        · have hltz2 : (q : Int) < (i : Int) - 1 := by omega
          have eea : ((q : Int)).toNat = q := by omega
          have pea : (0 : Int) ≤ (q : Int) := by omega
          have bea : (q : Int) < (d.size : Int) := by omega
          have rea : IntKind.i64.wrap ((q : Int)) = (q : Int) := by rw [IntKind.wrap_i64]; omega
          have eeb : ((q : Int) + 1).toNat = q + 1 := by omega
          have peb : (0 : Int) ≤ (q : Int) + 1 := by omega
          have beb : (q : Int) + 1 < (d.size : Int) := by omega
          have reb : IntKind.i64.wrap ((q : Int) + 1) = (q : Int) + 1 := by rw [IntKind.wrap_i64]; omega
          have S2 : Aside (SP enc k w0 blk off (swp dk (q) (q + 1)) ((wr.drew.setCells blk (off + (q) * k) (enc dk[q + 1]!)).setCells blk (off + (q + 1) * k) (enc dk[q]!))) := S1.out.swapped R (q) (q + 1) (by omega) (by omega)
          have l1 := S1.out.ld1 R (by omega) P (q) (by omega)
          have l2 := S1.out.ld1 R (by omega) P (q + 1) (by omega)
          have s1 := S1.out.st1 R (by omega) P (q) (by omega) dk[q + 1]!
          have s2 := S1.out.st2 R (by omega) P (q) (q + 1) (by omega) (by omega) dk[q + 1]! dk[q]!
          have n1 : (enc dk[q]!).length = k := R.hk _
          have n2 : (enc dk[q + 1]!).length = k := R.hk _
          generalize enc dk[q]! = cI at S2 l1 s2 n1
          generalize enc dk[q + 1]! = cJ at S2 l2 s1 s2 n2
          clear S1
          go_wp2_with fail
          go_big_region_o
          clear l1 l2 s1 s2
          generalize (wr.drew.setCells blk (off + (q) * k) cJ).setCells blk (off + (q + 1) * k) cI = w2 at S2 ⊢
          go_wp2
          go_roundg (i - 1 - (q + 1))
          case measure => omega
          case rel => exact ⟨q + 1, _, by go_num, by omega, by omega, Nat.le_refl _, by rw [size_swp]; exact hds, S2, ⟨via_up haq (by omega) V2.out.1, perm_swp V2.out.2 hb (by omega) (by omega)⟩⟩
        · have hltz2 : ¬ (q : Int) < (i : Int) - 1 := by omega
          obtain rfl : q = i - 1 := by omega
          go_wp2
          go_end0
          exact ⟨rfl, dk, S1.out, insert_up V2.out.1 hb hai hjb HO.out.1 HO.out.2 V1.out.1 V1.out.2, V2.out.2⟩
end Go.Proofs.YtnlnkjaapdefiaaGreatDoor

/- Layer 7: the stable sort's parts over rows of places: two rows that are in order, one behind the other, become one; the last one alone. -/
namespace Go.Proofs.YtnlnkjaapdefiaaGreatDoor
set_option linter.unusedSimpArgs false
set_option linter.unusedVariables false
open Go.Shelf Go.RowKit Go.Lib Go.Sort
open Stb
variable {P : Program} {k : Nat}
set_option maxHeartbeats 8000000 in
set_option maxRecDepth 1000000 in
theorem merge_last (L : Prg P k) (enc : El → List Value) (cf : El → El → Int) (hk : ∀ x y, cf x y < 0 ↔ KL x y) (g : Nat) (cb : Array Value) (blk off cap a m : Nat) (d0 d : Array El) (w0 w : World)
    (eg : ∀ args w, (callFunc g args).run P w = .ok (.enter g args) w) (hcmp : CmpLays P g cb enc k cf blk off d0.size w0)
    (R : RP enc k w0 blk off d0) (hs : d0.size = d.size) (S : SP enc k w0 blk off d w) (ham : a + 1 < m) (hb : m + 1 ≤ d.size) (hsz : d.size < 4611686018427387904)
    (h1 : St d a m) (ha : Ah d a m (m + 1)) :
    Calls P 157 #[.slice (some ⟨blk, off, none⟩) d.size cap, .int .i64 a, .int .i64 m, .int .i64 ((m : Int) + 1), .func (.func g) #[] cb] w
      (Rowed enc k w0 blk off fun d' => St d' a (m + 1) ∧ PermIn a (m + 1) d d') := by
  have mixed := L.mixed; have t0 := L.t0; have a0 := L.a0; have z0 := L.z0; have v0 := L.v0; have t3 := L.t3; have a3 := L.a3; have z3 := L.z3; have v3 := L.v3; have t4 := L.t4; have a4 := L.a4; have z4 := L.z4; have v4 := L.v4; have tU := L.tU; have tS := L.tS; have aS := L.aS; have zS := L.zS; have vS := L.vS; have tF := L.tF; have aF := L.aF; have zF := L.zF; have vF := L.vF; have aE := L.aE; have zE := L.zE; have eSw := L.eSw; have eRo := L.eRo; have eIn := L.eIn; have eSy := L.eSy; have eSt := L.eSt
  have S0 : Aside (SP enc k w0 blk off d w) := S
  have HC : Aside _ := hcmp
  have HK : Aside _ := hk
  have HO : Aside (St d a m ∧ Ah d a m (m + 1)) := ⟨h1, ha⟩
  clear S hcmp hk h1 ha
  have hm1 : (m : Int) + 1 - (m : Int) = 1 := by omega
  have hma : ((m : Int) - (a : Int) == 1) = false := beq_eq_false_iff_ne.2 (by omega)
  go_enter L.fSy, Tryz.ntmps157
  go_wp2
  go_loopg [14, 15] (m - a) (fun g1 vi vj wr => ∃ (i j : Nat), vi = .int .i64 i ∧ vj = .int .i64 j ∧ a ≤ i ∧ i ≤ j ∧ j ≤ m ∧ j - i ≤ g1 ∧ Aside (SP enc k w0 blk off d wr) ∧ Aside ((i = a ∨ ¬ KL d[m]! d[i - 1]!) ∧ (j = m ∨ KL d[m]! d[j]!)))
  case atStart => exact ⟨a, m, rfl, rfl, Nat.le_refl _, by omega, Nat.le_refl _, by omega, S0, ⟨Or.inl rfl, Or.inl rfl⟩⟩
  case round =>
    clear S0
    obtain ⟨i, j, rfl, rfl, hai, hij, hjb, hg1, S1, V1⟩ := hrel
    by_cases hlt : i < j
    · have hltz : (i : Int) < (j : Int) := by omega
      have eh : (((i + j) / 2 : Nat) : Int) = ((i : Int) + (j : Int)) / 2 := by omega
      obtain ⟨h, hh⟩ : ∃ h, (i + j) / 2 = h := ⟨_, rfl⟩
      have hh1 : i ≤ h := by omega
      have hh2 : h < j := by omega
      have ehz : ((i : Int) + (j : Int)) / 2 = (h : Int) := by omega
      clear eh
      by_cases hq : KL d[m]! d[h]!
      · have HQ : Aside (KL d[m]! d[h]!) := hq
        have eea : ((m : Int)).toNat = m := by omega
        have pea : (0 : Int) ≤ (m : Int) := by omega
        have bea : (m : Int) < (d.size : Int) := by omega
        have rea : IntKind.i64.wrap ((m : Int)) = (m : Int) := by rw [IntKind.wrap_i64]; omega
        have eeb : ((h : Int)).toNat = h := by omega
        have peb : (0 : Int) ≤ (h : Int) := by omega
        have beb : (h : Int) < (d.size : Int) := by omega
        have reb : IntKind.i64.wrap ((h : Int)) = (h : Int) := by rw [IntKind.wrap_i64]; omega
        obtain ⟨xa, hxa⟩ : ∃ zz, zz = d[m]! := ⟨_, rfl⟩
        obtain ⟨xb, hxb⟩ : ∃ zz, zz = d[h]! := ⟨_, rfl⟩
        have l1 := S1.out.ld R (by omega) P (m) (by omega)
        have l2 := S1.out.ld R (by omega) P (h) (by omega)
        rw [← hxa] at l1
        rw [← hxb] at l2
        have hc := S1.out.cmp HC.out (by omega) xa xb
        have hv : cf xa xb < 0 := by rw [hxa, hxb]; exact (HK.out _ _).2 hq
        have hd : decide (cf xa xb < 0) = true := decide_eq_true hv
        clear hxa hxb
        go_wp2_with fail
        go_quiet_grown (first | (go_at_fn g; refine Calls.grown_of (hc _ _)))
        have S2 : Aside (SP enc k w0 blk off d (grow (wr.drewN nq) osq)) := S1.out.grown nq osq
        clear l1 l2 hc S1
        generalize grow (wr.drewN nq) osq = w2 at S2 ⊢
        clear nq osq
        clear hq
        go_wp2
        go_roundg (h - i)
        case measure => omega
        case rel => exact ⟨i, h, rfl, rfl, hai, hh1, by omega, Nat.le_refl _, S2, ⟨V1.out.1, Or.inr HQ.out⟩⟩
      · have HQ : Aside (¬ KL d[m]! d[h]!) := hq
        have eea : ((m : Int)).toNat = m := by omega
        have pea : (0 : Int) ≤ (m : Int) := by omega
        have bea : (m : Int) < (d.size : Int) := by omega
        have rea : IntKind.i64.wrap ((m : Int)) = (m : Int) := by rw [IntKind.wrap_i64]; omega
        have eeb : ((h : Int)).toNat = h := by omega
        have peb : (0 : Int) ≤ (h : Int) := by omega
        have beb : (h : Int) < (d.size : Int) := by omega
        have reb : IntKind.i64.wrap ((h : Int)) = (h : Int) := by rw [IntKind.wrap_i64]; omega
        obtain ⟨xa, hxa⟩ : ∃ zz, zz = d[m]! := ⟨_, rfl⟩
        obtain ⟨xb, hxb⟩ : ∃ zz, zz = d[h]! := ⟨_, rfl⟩
        have l1 := S1.out.ld R (by omega) P (m) (by omega)
        have l2 := S1.out.ld R (by omega) P (h) (by omega)
        rw [← hxa] at l1
        rw [← hxb] at l2
        have hc := S1.out.cmp HC.out (by omega) xa xb
        have hv : ¬ cf xa xb < 0 := by rw [hxa, hxb]; exact fun h => hq ((HK.out _ _).1 h)
        have hd : decide (cf xa xb < 0) = false := decide_eq_false hv
        clear hxa hxb
        go_wp2_with fail
        go_quiet_grown (first | (go_at_fn g; refine Calls.grown_of (hc _ _)))
        have S2 : Aside (SP enc k w0 blk off d (grow (wr.drewN nq) osq)) := S1.out.grown nq osq
        clear l1 l2 hc S1
        generalize grow (wr.drewN nq) osq = w2 at S2 ⊢
        clear nq osq
        clear hq
        go_wp2
        go_roundg (j - (h + 1))
        case measure => omega
        case rel => exact ⟨h + 1, j, by go_num, rfl, by omega, by omega, hjb, Nat.le_refl _, S2, ⟨Or.inr (by simp only [Nat.add_sub_cancel]; exact HQ.out), V1.out.2⟩⟩
    · obtain rfl : i = j := by omega
      have hltz : ¬ (i : Int) < (i : Int) := by omega
      go_wp2
      go_loopg [17] (m - i) (fun g1 vk wr2 => ∃ (q : Nat) (dk : Array El), vk = .int .i64 q ∧ i ≤ q ∧ q ≤ m ∧ q - i ≤ g1 ∧ dk.size = d.size ∧ Aside (SP enc k w0 blk off dk wr2) ∧ Aside (Via (dR q m) d dk ∧ PermIn a (m + 1) d dk))
      case atStart => exact ⟨m, d, rfl, by omega, Nat.le_refl _, Nat.le_refl _, rfl, S1, ⟨via_down0 _ _, permIn_refl _ _ _⟩⟩
      case round =>
        clear S1
        obtain ⟨q, dk, rfl, hiq, hqm, hg2, hds, S1, V2⟩ := hrel
        by_cases hlt2 : i < q
        · have hltz2 : (i : Int) < (q : Int) := by omega
          obtain ⟨qp, rfl⟩ : ∃ qp, q = qp + 1 := ⟨q - 1, by omega⟩
          have hltz3 : (i : Int) < (qp : Int) + 1 := by omega
          have eea : ((qp : Int) + 1).toNat = qp + 1 := by omega
          have pea : (0 : Int) ≤ (qp : Int) + 1 := by omega
          have bea : (qp : Int) + 1 < (d.size : Int) := by omega
          have rea : IntKind.i64.wrap ((qp : Int) + 1) = (qp : Int) + 1 := by rw [IntKind.wrap_i64]; omega
          have eeb : ((qp : Int)).toNat = qp := by omega
          have peb : (0 : Int) ≤ (qp : Int) := by omega
          have beb : (qp : Int) < (d.size : Int) := by omega
          have reb : IntKind.i64.wrap ((qp : Int)) = (qp : Int) := by rw [IntKind.wrap_i64]; omega
          have S2 : Aside (SP enc k w0 blk off (swp dk (qp + 1) (qp)) ((wr.drew.setCells blk (off + (qp + 1) * k) (enc dk[qp]!)).setCells blk (off + (qp) * k) (enc dk[qp + 1]!))) := S1.out.swapped R (qp + 1) (qp) (by omega) (by omega)
          have l1 := S1.out.ld1 R (by omega) P (qp + 1) (by omega)
          have l2 := S1.out.ld1 R (by omega) P (qp) (by omega)
          have s1 := S1.out.st1 R (by omega) P (qp + 1) (by omega) dk[qp]!
          have s2 := S1.out.st2 R (by omega) P (qp + 1) (qp) (by omega) (by omega) dk[qp]! dk[qp + 1]!
          have n1 : (enc dk[qp + 1]!).length = k := R.hk _
          have n2 : (enc dk[qp]!).length = k := R.hk _
          generalize enc dk[qp + 1]! = cI at S2 l1 s2 n1
          generalize enc dk[qp]! = cJ at S2 l2 s1 s2 n2
          clear S1
          go_wp2_with fail
          go_big_region_o
          clear l1 l2 s1 s2
          generalize (wr.drew.setCells blk (off + (qp + 1) * k) cJ).setCells blk (off + (qp) * k) cI = w2 at S2 ⊢
          go_wp2
          go_roundg (qp - i)
          case measure => omega
          case rel => exact ⟨qp, _, by first | rfl | go_num | (congr 1; omega), by omega, by omega, Nat.le_refl _, by rw [size_swp]; exact hds, S2, ⟨via_down (by omega) (by omega) V2.out.1, perm_swp V2.out.2 hb (by omega) (by omega)⟩⟩
        · have hltz2 : ¬ (i : Int) < (q : Int) := by omega
          have hltB : decide ((q : Int) > (i : Int)) = false := decide_eq_false (by omega)
          obtain rfl : q = i := by omega
          go_wp2
          go_end0
          exact ⟨rfl, dk, S1.out, insert_down V2.out.1 (by omega) hai hqm HO.out.1 HO.out.2 V1.out.1 V1.out.2, V2.out.2⟩
end Go.Proofs.YtnlnkjaapdefiaaGreatDoor

/- Layer 7: the stable sort's parts over rows of places: two rows that are in order, one behind the other, become one, however long they are. -/
namespace Go.Proofs.YtnlnkjaapdefiaaGreatDoor
set_option linter.unusedSimpArgs false
set_option linter.unusedVariables false
open Go.Shelf Go.RowKit Go.Lib Go.Sort
open Stb
variable {P : Program} {k : Nat}
theorem st_move {a mid x y : Nat} {d1 d2 : Array El} (p : PermIn a mid d1 d2) (hx : mid ≤ x) (h : St d1 x y) : St d2 x y := fun i j h1 h2 h3 => by
  rw [p.2.1 i (Or.inr (by omega)), p.2.1 j (Or.inr (by omega))]
  exact h i j h1 h2 h3
theorem ah_move {a mid e b : Nat} {d1 d2 : Array El} (p : PermIn a mid d1 d2) (h : Ah d1 mid e b) : Ah d2 mid e b := fun i j h1 h2 h3 h4 => by
  rw [p.2.1 i (Or.inr (by omega)), p.2.1 j (Or.inr (by omega))]
  exact h i j h1 h2 h3 h4
set_option maxHeartbeats 16000000 in
set_option maxRecDepth 1000000 in
theorem merge_mid (L : Prg P k) (enc : El → List Value) (cf : El → El → Int) (hk : ∀ x y, cf x y < 0 ↔ KL x y) (g : Nat) (cb : Array Value) (blk off cap a m b n : Nat) (d0 d : Array El) (w0 w : World)
    (eg : ∀ args w, (callFunc g args).run P w = .ok (.enter g args) w) (hcmp : CmpLays P g cb enc k cf blk off d0.size w0)
    (R : RP enc k w0 blk off d0) (hs : d0.size = d.size) (S : SP enc k w0 blk off d w) (ham1 : a + 1 < m) (hmb1 : m + 1 < b) (hb : b ≤ d.size) (hsz : d.size < 4611686018427387904)
    (h1 : St d a m) (h2 : St d m b) (ha : Ah d a m b) (hn : b - a ≤ n + 1) (ih : Merges P k enc g cb blk off cap d0 w0 n) :
    Calls P 157 #[.slice (some ⟨blk, off, none⟩) d.size cap, .int .i64 a, .int .i64 m, .int .i64 b, .func (.func g) #[] cb] w
      (Rowed enc k w0 blk off fun d' => St d' a b ∧ PermIn a b d d') := by
  have mixed := L.mixed; have t0 := L.t0; have a0 := L.a0; have z0 := L.z0; have v0 := L.v0; have t3 := L.t3; have a3 := L.a3; have z3 := L.z3; have v3 := L.v3; have t4 := L.t4; have a4 := L.a4; have z4 := L.z4; have v4 := L.v4; have tU := L.tU; have tS := L.tS; have aS := L.aS; have zS := L.zS; have vS := L.vS; have tF := L.tF; have aF := L.aF; have zF := L.zF; have vF := L.vF; have aE := L.aE; have zE := L.zE; have eSw := L.eSw; have eRo := L.eRo; have eIn := L.eIn; have eSy := L.eSy; have eSt := L.eSt
  have S0 : Aside (SP enc k w0 blk off d w) := S
  have HC : Aside _ := hcmp
  have HK : Aside _ := hk
  have IH : Aside _ := ih
  have L0 : Aside _ := L
  have R0 : Aside _ := R
  have HO : Aside (St d a m ∧ St d m b ∧ Ah d a m b) := ⟨h1, h2, ha⟩
  have ham : a < m := by omega
  have hmb : m < b := by omega
  have hma : ((m : Int) - (a : Int) == 1) = false := beq_eq_false_iff_ne.2 (by omega)
  have hbm : ((b : Int) - (m : Int) == 1) = false := beq_eq_false_iff_ne.2 (by omega)
  obtain ⟨mid, hmid0⟩ : ∃ mid, (a + b) / 2 = mid := ⟨_, rfl⟩
  have hm1 : a < mid := by omega
  have hm2 : mid < b := by omega
  have hm3 : a + b ≤ mid + mid + 1 := by omega
  have hm4 : mid + mid ≤ a + b := by omega
  have ehz : ((a : Int) + (b : Int)) / 2 = (mid : Int) := by omega
  clear S hcmp hk ih h1 h2 ha hmid0
  go_enter L.fSy, Tryz.ntmps157
  clear L
  go_upto_if 140 with (fail)
  go_cut [20, 21] (fun vs vr wx => ∃ s0 r0 : Nat, vs = .int .i64 s0 ∧ vr = .int .i64 r0 ∧ a ≤ s0 ∧ s0 ≤ r0 ∧ r0 ≤ m ∧ r0 ≤ mid ∧ mid + m ≤ b + s0 ∧ (s0 = a ∨ mid + m = b + s0) ∧ (r0 = m ∨ r0 = mid) ∧ Aside (SP enc k w0 blk off d wx))
  case first =>
    by_cases hmm : mid < m
    · have hmz : (mid : Int) < (m : Int) := by omega
      have hmB : decide ((m : Int) > (mid : Int)) = true := decide_eq_true hmz
      go_wp2_with fail
      go_meet
      exact ⟨mid + m - b, mid, by rw [show ((mid + m - b : Nat) : Int) = (mid : Int) + (m : Int) - (b : Int) by omega], rfl, by omega, by omega, by omega, by omega, by omega, by omega, by omega, S0⟩
    · have hmz : ¬ (mid : Int) < (m : Int) := by omega
      have hmB : decide ((m : Int) > (mid : Int)) = false := decide_eq_false hmz
      go_wp2_with fail
      go_meet
      exact ⟨a, m, rfl, rfl, by omega, by omega, by omega, by omega, by omega, by omega, by omega, S0⟩
  case rest =>
    clear S0
    obtain ⟨s0, r0, rfl, rfl, q1, q2, q3, q4, q5, q6, q7, S0⟩ := hcut
    go_wp2
    go_loopg [20, 21] (r0 - s0) (fun g1 vi vj wr => ∃ (s r : Nat), vi = .int .i64 s ∧ vj = .int .i64 r ∧ s0 ≤ s ∧ s ≤ r ∧ r ≤ r0 ∧ r - s ≤ g1 ∧ Aside (SP enc k w0 blk off d wr) ∧ Aside ((s = s0 ∨ ¬ KL d[mid + m - s]! d[s - 1]!) ∧ (r = r0 ∨ KL d[mid + m - 1 - r]! d[r]!)))
    case atStart => exact ⟨s0, r0, rfl, rfl, Nat.le_refl _, q2, Nat.le_refl _, Nat.le_refl _, S0, ⟨Or.inl rfl, Or.inl rfl⟩⟩
    case round =>
      clear S0
      obtain ⟨s, r, rfl, rfl, hss, hsr, hrr, hg1, S1, V1⟩ := hrel
      by_cases hlt : s < r
      · have hltz : (s : Int) < (r : Int) := by omega
        obtain ⟨c, hc0⟩ : ∃ c, (s + r) / 2 = c := ⟨_, rfl⟩
        have hc1 : s ≤ c := by omega
        have hc2 : c < r := by omega
        have ehc : ((s : Int) + (r : Int)) / 2 = (c : Int) := by omega
        clear hc0
        obtain ⟨x, hx0⟩ : ∃ x, mid + m - 1 - c = x := ⟨_, rfl⟩
        have exz : (mid : Int) + (m : Int) - 1 - (c : Int) = (x : Int) := by omega
        have hxd : x < d.size := by omega
        by_cases hq : KL d[x]! d[c]!
        · have HQ : Aside (KL d[mid + m - 1 - c]! d[c]!) := by rw [← hx0] at hq; exact hq
          clear hx0
          have eea : ((x : Int)).toNat = x := by omega
          have pea : (0 : Int) ≤ (x : Int) := by omega
          have bea : (x : Int) < (d.size : Int) := by omega
          have rea : IntKind.i64.wrap ((x : Int)) = (x : Int) := by rw [IntKind.wrap_i64]; omega
          have eeb : ((c : Int)).toNat = c := by omega
          have peb : (0 : Int) ≤ (c : Int) := by omega
          have beb : (c : Int) < (d.size : Int) := by omega
          have reb : IntKind.i64.wrap ((c : Int)) = (c : Int) := by rw [IntKind.wrap_i64]; omega
          obtain ⟨xa, hxa⟩ : ∃ zz, zz = d[x]! := ⟨_, rfl⟩
          obtain ⟨xb, hxb⟩ : ∃ zz, zz = d[c]! := ⟨_, rfl⟩
          have l1 := S1.out.ld R (by omega) P (x) (by omega)
          have l2 := S1.out.ld R (by omega) P (c) (by omega)
          rw [← hxa] at l1
          rw [← hxb] at l2
          have hc := S1.out.cmp HC.out (by omega) xa xb
          have hv : cf xa xb < 0 := by rw [hxa, hxb]; exact (HK.out _ _).2 hq
          have hd : decide (cf xa xb < 0) = true := decide_eq_true hv
          clear hxa hxb
          go_wp2_with fail
          go_quiet_grown (first | (go_at_fn g; refine Calls.grown_of (hc _ _)))
          have S2 : Aside (SP enc k w0 blk off d (grow (wr.drewN nq) osq)) := S1.out.grown nq osq
          clear l1 l2 hc S1
          generalize grow (wr.drewN nq) osq = w2 at S2 ⊢
          clear nq osq
          clear hq
          go_wp2
          go_roundg (c - s)
          case measure => omega
          case rel => exact ⟨s, c, rfl, rfl, hss, hc1, by omega, Nat.le_refl _, S2, ⟨V1.out.1, Or.inr HQ.out⟩⟩
        · have HQ : Aside (¬ KL d[mid + m - 1 - c]! d[c]!) := by rw [← hx0] at hq; exact hq
          clear hx0
          have eea : ((x : Int)).toNat = x := by omega
          have pea : (0 : Int) ≤ (x : Int) := by omega
          have bea : (x : Int) < (d.size : Int) := by omega
          have rea : IntKind.i64.wrap ((x : Int)) = (x : Int) := by rw [IntKind.wrap_i64]; omega
          have eeb : ((c : Int)).toNat = c := by omega
          have peb : (0 : Int) ≤ (c : Int) := by omega
          have beb : (c : Int) < (d.size : Int) := by omega
          have reb : IntKind.i64.wrap ((c : Int)) = (c : Int) := by rw [IntKind.wrap_i64]; omega
          obtain ⟨xa, hxa⟩ : ∃ zz, zz = d[x]! := ⟨_, rfl⟩
          obtain ⟨xb, hxb⟩ : ∃ zz, zz = d[c]! := ⟨_, rfl⟩
          have l1 := S1.out.ld R (by omega) P (x) (by omega)
          have l2 := S1.out.ld R (by omega) P (c) (by omega)
          rw [← hxa] at l1
          rw [← hxb] at l2
          have hc := S1.out.cmp HC.out (by omega) xa xb
          have hv : ¬ cf xa xb < 0 := by rw [hxa, hxb]; exact fun h => hq ((HK.out _ _).1 h)
          have hd : decide (cf xa xb < 0) = false := decide_eq_false hv
          clear hxa hxb
          go_wp2_with fail
          go_quiet_grown (first | (go_at_fn g; refine Calls.grown_of (hc _ _)))
          have S2 : Aside (SP enc k w0 blk off d (grow (wr.drewN nq) osq)) := S1.out.grown nq osq
          clear l1 l2 hc S1
          generalize grow (wr.drewN nq) osq = w2 at S2 ⊢
          clear nq osq
          clear hq
          go_wp2
          go_roundg (r - (c + 1))
          case measure => omega
          case rel => exact ⟨c + 1, r, by go_num, rfl, by omega, by omega, hrr, Nat.le_refl _, S2, ⟨Or.inr (by rw [show mid + m - (c + 1) = mid + m - 1 - c by omega, Nat.add_sub_cancel]; exact HQ.out), V1.out.2⟩⟩
      · obtain rfl : s = r := by omega
        have hltz : ¬ (s : Int) < (s : Int) := by omega
        obtain ⟨e, he0⟩ : ∃ e, mid + m - s = e := ⟨_, rfl⟩
        have ez : (mid : Int) + (m : Int) - (s : Int) = (e : Int) := by omega
        have hs1 : a ≤ s := by omega
        have hs2 : s ≤ m := by omega
        have he1 : m ≤ e := by omega
        have he2 : e ≤ b := by omega
        have hmid : s + (e - m) = mid := by omega
        have N1 : Aside (a < s → e < b → ¬ KL d[e]! d[s - 1]!) := fun x y => by
          rcases V1.out.1 with h | h
          · omega
          · rwa [he0] at h
        have N2 : Aside (s < m → m < e → KL d[e - 1]! d[s]!) := fun x y => by
          rcases V1.out.2 with h | h
          · omega
          · rwa [show mid + m - 1 - s = e - 1 by omega] at h
        clear V1
        by_cases c1 : s < m <;> by_cases c2 : m < e <;> by_cases c3 : a < s <;> by_cases c6 : e < b
        · have u1 : (s : Int) < (m : Int) := by omega
          have u2 : (m : Int) < (e : Int) := by omega
          have u3 : (a : Int) < (s : Int) := by omega
          have u4 : (s : Int) < (mid : Int) := by omega
          have u5 : (mid : Int) < (e : Int) := by omega
          have u6 : (e : Int) < (b : Int) := by omega
          have hcall := rotate_any L0.out enc blk off cap s m e d0 d w0 wr (.func (.func g) #[] cb) R0.out hs S1.out (by omega) (by omega) (by omega) (by omega)
          go_wp2_with (go_at_fn 175; refine hcall.mono ?_; rintro e1 w1 ⟨rfl, d1, T1, V2, P2⟩)
          have Z1 : d1.size = d.size := V2.1
          have T1 : Aside (SP enc k w0 blk off d1 w1) := T1
          have H : Aside _ := halves V2 (by omega) ham hmb hs1 hs2 he1 he2 hmid HO.out.1 HO.out.2.1 HO.out.2.2 N1.out N2.out
          have PP : Aside (PermIn a b d d1) := perm_sub P2 (by omega) (by omega) (by omega)
          clear hcall P2 V2
          have hcall := IH.out a s mid d1 w1 (by omega) (by omega) T1.out (by omega) (by omega) (by omega) H.out.1 H.out.2.1 H.out.2.2.1
          rw [Z1] at hcall
          go_wp2_with (go_at_fn 157; refine hcall.mono ?_; rintro e2 w2 ⟨rfl, d2, T2, X2, Q2⟩)
          have Z2 : d2.size = d.size := Q2.1.trans Z1
          have T2 : Aside (SP enc k w0 blk off d2 w2) := T2
          have X2 : Aside (St d2 a mid ∧ PermIn a mid d1 d2) := ⟨X2, Q2⟩
          clear hcall Q2
          have hcall := IH.out mid e b d2 w2 (by omega) (by omega) T2.out (by omega) (by omega) (by omega) (st_move X2.out.2 (by omega) (H.out.2.2.2.1)) (st_move X2.out.2 (by omega) (H.out.2.2.2.2.1)) (ah_move X2.out.2 H.out.2.2.2.2.2.1)
          rw [Z2] at hcall
          go_wp2_with (go_at_fn 157; refine hcall.mono ?_; rintro e3 w3 ⟨rfl, d3, T3, X3, Q3⟩)
          go_end0
          exact ⟨rfl, d3, T3, both (by omega) (by omega) (by omega) H.out.2.2.2.2.2.2 X2.out.2 Q3 X2.out.1 X3, perm_on PP.out (perm_on (perm_sub X2.out.2 (by omega) (by omega) (by omega)) (perm_sub Q3 (by omega) (by omega) (by omega)))⟩
        · have u1 : (s : Int) < (m : Int) := by omega
          have u2 : (m : Int) < (e : Int) := by omega
          have u3 : (a : Int) < (s : Int) := by omega
          have u4 : (s : Int) < (mid : Int) := by omega
          have u5 : (mid : Int) < (e : Int) := by omega
          have u6 : ¬ (e : Int) < (b : Int) := by omega
          have hcall := rotate_any L0.out enc blk off cap s m e d0 d w0 wr (.func (.func g) #[] cb) R0.out hs S1.out (by omega) (by omega) (by omega) (by omega)
          go_wp2_with (go_at_fn 175; refine hcall.mono ?_; rintro e1 w1 ⟨rfl, d1, T1, V2, P2⟩)
          have Z1 : d1.size = d.size := V2.1
          have T1 : Aside (SP enc k w0 blk off d1 w1) := T1
          have H : Aside _ := halves V2 (by omega) ham hmb hs1 hs2 he1 he2 hmid HO.out.1 HO.out.2.1 HO.out.2.2 N1.out N2.out
          have PP : Aside (PermIn a b d d1) := perm_sub P2 (by omega) (by omega) (by omega)
          clear hcall P2 V2
          have hcall := IH.out a s mid d1 w1 (by omega) (by omega) T1.out (by omega) (by omega) (by omega) H.out.1 H.out.2.1 H.out.2.2.1
          rw [Z1] at hcall
          go_wp2_with (go_at_fn 157; refine hcall.mono ?_; rintro e2 w2 ⟨rfl, d2, T2, X2, Q2⟩)
          have Z2 : d2.size = d.size := Q2.1.trans Z1
          have T2 : Aside (SP enc k w0 blk off d2 w2) := T2
          have X2 : Aside (St d2 a mid ∧ PermIn a mid d1 d2) := ⟨X2, Q2⟩
          clear hcall Q2
          go_wp2_with fail
          go_end0
          exact ⟨rfl, d2, T2.out, both (by omega) (by omega) (by omega) H.out.2.2.2.2.2.2 X2.out.2 (permIn_refl _ _ _) X2.out.1 (st_move X2.out.2 (by omega) (by have h := H.out.2.2.2.1; rwa [show e = b by omega] at h)), perm_on PP.out (perm_sub X2.out.2 (by omega) (by omega) (by omega))⟩
        · have u1 : (s : Int) < (m : Int) := by omega
          have u2 : (m : Int) < (e : Int) := by omega
          have u3 : ¬ (a : Int) < (s : Int) := by omega
          have u4 : (s : Int) < (mid : Int) := by omega
          have u5 : (mid : Int) < (e : Int) := by omega
          have u6 : (e : Int) < (b : Int) := by omega
          have hcall := rotate_any L0.out enc blk off cap s m e d0 d w0 wr (.func (.func g) #[] cb) R0.out hs S1.out (by omega) (by omega) (by omega) (by omega)
          go_wp2_with (go_at_fn 175; refine hcall.mono ?_; rintro e1 w1 ⟨rfl, d1, T1, V2, P2⟩)
          have Z1 : d1.size = d.size := V2.1
          have T1 : Aside (SP enc k w0 blk off d1 w1) := T1
          have H : Aside _ := halves V2 (by omega) ham hmb hs1 hs2 he1 he2 hmid HO.out.1 HO.out.2.1 HO.out.2.2 N1.out N2.out
          have PP : Aside (PermIn a b d d1) := perm_sub P2 (by omega) (by omega) (by omega)
          clear hcall P2 V2
          have Z2 : d1.size = d.size := Z1
          have X2 : Aside (St d1 a mid ∧ PermIn a mid d1 d1) := ⟨by have h := H.out.2.1; rwa [show s = a by omega] at h, permIn_refl _ _ _⟩
          have hcall := IH.out mid e b d1 w1 (by omega) (by omega) T1.out (by omega) (by omega) (by omega) (st_move X2.out.2 (by omega) (H.out.2.2.2.1)) (st_move X2.out.2 (by omega) (H.out.2.2.2.2.1)) (ah_move X2.out.2 H.out.2.2.2.2.2.1)
          rw [Z2] at hcall
          go_wp2_with (go_at_fn 157; refine hcall.mono ?_; rintro e3 w3 ⟨rfl, d3, T3, X3, Q3⟩)
          go_end0
          exact ⟨rfl, d3, T3, both (by omega) (by omega) (by omega) H.out.2.2.2.2.2.2 X2.out.2 Q3 X2.out.1 X3, perm_on PP.out (perm_on (perm_sub X2.out.2 (by omega) (by omega) (by omega)) (perm_sub Q3 (by omega) (by omega) (by omega)))⟩
        · have u1 : (s : Int) < (m : Int) := by omega
          have u2 : (m : Int) < (e : Int) := by omega
          have u3 : ¬ (a : Int) < (s : Int) := by omega
          have u4 : (s : Int) < (mid : Int) := by omega
          have u5 : (mid : Int) < (e : Int) := by omega
          have u6 : ¬ (e : Int) < (b : Int) := by omega
          have hcall := rotate_any L0.out enc blk off cap s m e d0 d w0 wr (.func (.func g) #[] cb) R0.out hs S1.out (by omega) (by omega) (by omega) (by omega)
          go_wp2_with (go_at_fn 175; refine hcall.mono ?_; rintro e1 w1 ⟨rfl, d1, T1, V2, P2⟩)
          have Z1 : d1.size = d.size := V2.1
          have T1 : Aside (SP enc k w0 blk off d1 w1) := T1
          have H : Aside _ := halves V2 (by omega) ham hmb hs1 hs2 he1 he2 hmid HO.out.1 HO.out.2.1 HO.out.2.2 N1.out N2.out
          have PP : Aside (PermIn a b d d1) := perm_sub P2 (by omega) (by omega) (by omega)
          clear hcall P2 V2
          have Z2 : d1.size = d.size := Z1
          have X2 : Aside (St d1 a mid ∧ PermIn a mid d1 d1) := ⟨by have h := H.out.2.1; rwa [show s = a by omega] at h, permIn_refl _ _ _⟩
          go_wp2_with fail
          go_end0
          exact ⟨rfl, d1, T1.out, both (by omega) (by omega) (by omega) H.out.2.2.2.2.2.2 X2.out.2 (permIn_refl _ _ _) X2.out.1 (st_move X2.out.2 (by omega) (by have h := H.out.2.2.2.1; rwa [show e = b by omega] at h)), perm_on PP.out (perm_sub X2.out.2 (by omega) (by omega) (by omega))⟩
        · have u1 : (s : Int) < (m : Int) := by omega
          have u2 : ¬ (m : Int) < (e : Int) := by omega
          have u3 : (a : Int) < (s : Int) := by omega
          have u4 : ¬ (s : Int) < (mid : Int) := by omega
          have u5 : (mid : Int) < (e : Int) := by omega
          have u6 : (e : Int) < (b : Int) := by omega
          have V2 : Via (rR s m e) d d := by rw [show e = m by omega]; exact rot_none d
          have H : Aside _ := halves V2 (by omega) ham hmb hs1 hs2 he1 he2 hmid HO.out.1 HO.out.2.1 HO.out.2.2 N1.out N2.out
          have PP : Aside (PermIn a b d d) := permIn_refl _ _ _
          have Z1 : d.size = d.size := rfl
          clear V2
          have Z2 : d.size = d.size := Z1
          have X2 : Aside (St d a mid ∧ PermIn a mid d d) := ⟨by have h := H.out.1; rwa [show s = mid by omega] at h, permIn_refl _ _ _⟩
          have hcall := IH.out mid e b d wr (by omega) (by omega) S1.out (by omega) (by omega) (by omega) (st_move X2.out.2 (by omega) (H.out.2.2.2.1)) (st_move X2.out.2 (by omega) (H.out.2.2.2.2.1)) (ah_move X2.out.2 H.out.2.2.2.2.2.1)
          go_wp2_with (go_at_fn 157; refine hcall.mono ?_; rintro e3 w3 ⟨rfl, d3, T3, X3, Q3⟩)
          go_end0
          exact ⟨rfl, d3, T3, both (by omega) (by omega) (by omega) H.out.2.2.2.2.2.2 X2.out.2 Q3 X2.out.1 X3, perm_on PP.out (perm_on (perm_sub X2.out.2 (by omega) (by omega) (by omega)) (perm_sub Q3 (by omega) (by omega) (by omega)))⟩
        · have u1 : (s : Int) < (m : Int) := by omega
          have u2 : ¬ (m : Int) < (e : Int) := by omega
          have u3 : (a : Int) < (s : Int) := by omega
          have u4 : ¬ (s : Int) < (mid : Int) := by omega
          have u5 : (mid : Int) < (e : Int) := by omega
          have u6 : ¬ (e : Int) < (b : Int) := by omega
          have V2 : Via (rR s m e) d d := by rw [show e = m by omega]; exact rot_none d
          have H : Aside _ := halves V2 (by omega) ham hmb hs1 hs2 he1 he2 hmid HO.out.1 HO.out.2.1 HO.out.2.2 N1.out N2.out
          have PP : Aside (PermIn a b d d) := permIn_refl _ _ _
          have Z1 : d.size = d.size := rfl
          clear V2
          have Z2 : d.size = d.size := Z1
          have X2 : Aside (St d a mid ∧ PermIn a mid d d) := ⟨by have h := H.out.1; rwa [show s = mid by omega] at h, permIn_refl _ _ _⟩
          go_wp2_with fail
          go_end0
          exact ⟨rfl, d, S1.out, both (by omega) (by omega) (by omega) H.out.2.2.2.2.2.2 X2.out.2 (permIn_refl _ _ _) X2.out.1 (st_move X2.out.2 (by omega) (by have h := H.out.2.2.2.1; rwa [show e = b by omega] at h)), perm_on PP.out (perm_sub X2.out.2 (by omega) (by omega) (by omega))⟩
        · exfalso; omega
        · exfalso; omega
        · have u1 : ¬ (s : Int) < (m : Int) := by omega
          have u2 : (m : Int) < (e : Int) := by omega
          have u3 : (a : Int) < (s : Int) := by omega
          have u4 : (s : Int) < (mid : Int) := by omega
          have u5 : ¬ (mid : Int) < (e : Int) := by omega
          have u6 : (e : Int) < (b : Int) := by omega
          have V2 : Via (rR s m e) d d := by rw [show s = m by omega]; exact rot_none2 d (by omega)
          have H : Aside _ := halves V2 (by omega) ham hmb hs1 hs2 he1 he2 hmid HO.out.1 HO.out.2.1 HO.out.2.2 N1.out N2.out
          have PP : Aside (PermIn a b d d) := permIn_refl _ _ _
          have Z1 : d.size = d.size := rfl
          clear V2
          have hcall := IH.out a s mid d wr (by omega) (by omega) S1.out (by omega) (by omega) (by omega) H.out.1 H.out.2.1 H.out.2.2.1
          go_wp2_with (go_at_fn 157; refine hcall.mono ?_; rintro e2 w2 ⟨rfl, d2, T2, X2, Q2⟩)
          have Z2 : d2.size = d.size := Q2.1
          have T2 : Aside (SP enc k w0 blk off d2 w2) := T2
          have X2 : Aside (St d2 a mid ∧ PermIn a mid d d2) := ⟨X2, Q2⟩
          clear hcall Q2
          go_wp2_with fail
          go_end0
          exact ⟨rfl, d2, T2.out, both (by omega) (by omega) (by omega) H.out.2.2.2.2.2.2 X2.out.2 (permIn_refl _ _ _) X2.out.1 (st_move X2.out.2 (by omega) (by have h := H.out.2.2.2.2.1; rwa [show e = mid by omega] at h)), perm_on PP.out (perm_sub X2.out.2 (by omega) (by omega) (by omega))⟩
        · exfalso; omega
        · have u1 : ¬ (s : Int) < (m : Int) := by omega
          have u2 : (m : Int) < (e : Int) := by omega
          have u3 : ¬ (a : Int) < (s : Int) := by omega
          have u4 : (s : Int) < (mid : Int) := by omega
          have u5 : ¬ (mid : Int) < (e : Int) := by omega
          have u6 : (e : Int) < (b : Int) := by omega
          have V2 : Via (rR s m e) d d := by rw [show s = m by omega]; exact rot_none2 d (by omega)
          have H : Aside _ := halves V2 (by omega) ham hmb hs1 hs2 he1 he2 hmid HO.out.1 HO.out.2.1 HO.out.2.2 N1.out N2.out
          have PP : Aside (PermIn a b d d) := permIn_refl _ _ _
          have Z1 : d.size = d.size := rfl
          clear V2
          have Z2 : d.size = d.size := Z1
          have X2 : Aside (St d a mid ∧ PermIn a mid d d) := ⟨by have h := H.out.2.1; rwa [show s = a by omega] at h, permIn_refl _ _ _⟩
          go_wp2_with fail
          go_end0
          exact ⟨rfl, d, S1.out, both (by omega) (by omega) (by omega) H.out.2.2.2.2.2.2 X2.out.2 (permIn_refl _ _ _) X2.out.1 (st_move X2.out.2 (by omega) (by have h := H.out.2.2.2.2.1; rwa [show e = mid by omega] at h)), perm_on PP.out (perm_sub X2.out.2 (by omega) (by omega) (by omega))⟩
        · exfalso; omega
        · have u1 : ¬ (s : Int) < (m : Int) := by omega
          have u2 : ¬ (m : Int) < (e : Int) := by omega
          have u3 : (a : Int) < (s : Int) := by omega
          have u4 : ¬ (s : Int) < (mid : Int) := by omega
          have u5 : ¬ (mid : Int) < (e : Int) := by omega
          have u6 : (e : Int) < (b : Int) := by omega
          have V2 : Via (rR s m e) d d := by rw [show e = m by omega]; exact rot_none d
          have H : Aside _ := halves V2 (by omega) ham hmb hs1 hs2 he1 he2 hmid HO.out.1 HO.out.2.1 HO.out.2.2 N1.out N2.out
          have PP : Aside (PermIn a b d d) := permIn_refl _ _ _
          have Z1 : d.size = d.size := rfl
          clear V2
          have Z2 : d.size = d.size := Z1
          have X2 : Aside (St d a mid ∧ PermIn a mid d d) := ⟨by have h := H.out.1; rwa [show s = mid by omega] at h, permIn_refl _ _ _⟩
          go_wp2_with fail
          go_end0
          exact ⟨rfl, d, S1.out, both (by omega) (by omega) (by omega) H.out.2.2.2.2.2.2 X2.out.2 (permIn_refl _ _ _) X2.out.1 (st_move X2.out.2 (by omega) (by have h := H.out.2.2.2.2.1; rwa [show e = mid by omega] at h)), perm_on PP.out (perm_sub X2.out.2 (by omega) (by omega) (by omega))⟩
        · exfalso; omega
        · exfalso; omega
        · exfalso; omega
theorem merge_any (L : Prg P k) (enc : El → List Value) (cf : El → El → Int) (hk : ∀ x y, cf x y < 0 ↔ KL x y) (g : Nat) (cb : Array Value) (blk off cap : Nat) (d0 : Array El) (w0 : World)
    (eg : ∀ args w, (callFunc g args).run P w = .ok (.enter g args) w) (hcmp : CmpLays P g cb enc k cf blk off d0.size w0)
    (R : RP enc k w0 blk off d0) (hsz : d0.size < 4611686018427387904) : ∀ n, Merges P k enc g cb blk off cap d0 w0 n
  | 0 => fun a m b d w hn hs S h1 h2 h3 _ _ _ => by omega
  | n + 1 => fun a m b d w hn hs S h1 h2 h3 s1 s2 ha => by
    by_cases e1 : m = a + 1
    · subst e1
      have h := merge_one L enc cf hk g cb blk off cap a b d0 d w0 w eg hcmp R hs S (by omega) h3 (by omega) s2 ha
      rwa [show (a : Int) + 1 = ((a + 1 : Nat) : Int) by omega] at h
    · by_cases e2 : b = m + 1
      · subst e2
        have h := merge_last L enc cf hk g cb blk off cap a m d0 d w0 w eg hcmp R hs S (by omega) h3 (by omega) s1 ha
        rwa [show (m : Int) + 1 = ((m + 1 : Nat) : Int) by omega] at h
      · exact merge_mid L enc cf hk g cb blk off cap a m b n d0 d w0 w eg hcmp R hs S (by omega) (by omega) h3 (by omega) s1 s2 ha hn (merge_any L enc cf hk g cb blk off cap d0 w0 eg hcmp R hsz n)
end Go.Proofs.YtnlnkjaapdefiaaGreatDoor

/- Layer 7: the stable sort over rows of places, whole. -/
namespace Go.Proofs.YtnlnkjaapdefiaaGreatDoor
set_option linter.unusedSimpArgs false
set_option linter.unusedVariables false
open Go.Shelf Go.RowKit Go.Lib Go.Sort
open Stb
variable {P : Program} {k : Nat}
set_option maxHeartbeats 16000000 in
set_option maxRecDepth 1000000 in
theorem stable_any (L : Prg P k) (enc : El → List Value) (cf : El → El → Int) (hk : ∀ x y, cf x y < 0 ↔ KL x y) (g : Nat) (cb : Array Value) (blk off cap : Nat) (d0 d : Array El) (w0 w : World)
    (eg : ∀ args w, (callFunc g args).run P w = .ok (.enter g args) w) (hcmp : CmpLays P g cb enc k cf blk off d0.size w0)
    (R : RP enc k w0 blk off d0) (hs : d0.size = d.size) (S : SP enc k w0 blk off d w) (hsz : d.size ≤ 1000000) (hid : ∀ t, t < d.size → (d[t]!).2.2.2 = t) :
    Calls P 119 #[.slice (some ⟨blk, off, none⟩) d.size cap, .int .i64 d.size, .func (.func g) #[] cb] w
      (Rowed enc k w0 blk off fun d' => St d' 0 d.size ∧ PermIn 0 d.size d d') := by
  have mixed := L.mixed; have t0 := L.t0; have a0 := L.a0; have z0 := L.z0; have v0 := L.v0; have t3 := L.t3; have a3 := L.a3; have z3 := L.z3; have v3 := L.v3; have t4 := L.t4; have a4 := L.a4; have z4 := L.z4; have v4 := L.v4; have tU := L.tU; have tS := L.tS; have aS := L.aS; have zS := L.zS; have vS := L.vS; have tF := L.tF; have aF := L.aF; have zF := L.zF; have vF := L.vF; have aE := L.aE; have zE := L.zE; have eSw := L.eSw; have eRo := L.eRo; have eIn := L.eIn; have eSy := L.eSy; have eSt := L.eSt
  have S0 : Aside (SP enc k w0 blk off d w) := S
  have HI : Aside (∀ t, t < d.size → (d[t]!).2.2.2 = t) := hid
  have IN : Aside (∀ (a b : Nat) (dk : Array El) (wr : World), dk.size = d.size → SP enc k w0 blk off dk wr → a ≤ b → b ≤ d.size → (∀ t, a ≤ t → dk[t]! = d[t]!) →
      Calls P 156 #[.slice (some ⟨blk, off, none⟩) d.size cap, .int .i64 a, .int .i64 b, .func (.func g) #[] cb] wr (Rowed enc k w0 blk off fun d' => St d' a b ∧ PermIn a b dk d')) := fun a b dk wr h1 h2 h3 h4 h5 => by
    have h := insertion_any L enc cf hk g cb blk off cap a b d0 dk w0 wr eg hcmp R (by omega) h2 h3 (by omega) (by omega) (fun i j x y z => by rw [h5 i x, h5 j (by omega), hid i (by omega), hid j (by omega)]; exact y)
    rwa [h1] at h
  have ME : Aside (∀ (a m b : Nat) (dk : Array El) (wr : World), dk.size = d.size → SP enc k w0 blk off dk wr → a < m → m < b → b ≤ d.size → Seg dk a m → Seg dk m b →
      Calls P 157 #[.slice (some ⟨blk, off, none⟩) d.size cap, .int .i64 a, .int .i64 m, .int .i64 b, .func (.func g) #[] cb] wr (Rowed enc k w0 blk off fun d' => St d' a b ∧ PermIn a b dk d')) := fun a m b dk wr h1 h2 h3 h4 h5 h6 h7 => by
    have h := merge_any L enc cf hk g cb blk off cap d0 w0 eg hcmp R (by omega) (b - a) a m b dk wr (Nat.le_refl _) (by omega) h2 h3 h4 (by omega) h6.1 h7.1 (seg_ah h6 h7)
    rwa [h1] at h
  obtain ⟨n, hn⟩ : ∃ n, d.size = n := ⟨_, rfl⟩
  rw [hn] at hsz HI IN ME hs ⊢
  have HN : Aside (d.size = n) := hn
  clear S hcmp hk hid eg hn
  go_enter L.fSt, Tryz.ntmps119
  clear L R
  go_wp2
  go_loopg [7, 8] (n + 1) (fun g1 v7 v8 wr => ∃ (a b : Nat) (dk : Array El), v7 = .int .i64 a ∧ v8 = .int .i64 b ∧ b ≤ a + 20 ∧ a + 20 ≤ b ∧ a ≤ n ∧ n + 1 - a ≤ g1 ∧ dk.size = n ∧ Aside (SP enc k w0 blk off dk wr) ∧ Aside (Dn 20 n dk a ∧ PermIn 0 n d dk ∧ (∀ t, a ≤ t → dk[t]! = d[t]!)))
  case atStart => exact ⟨0, 20, d, rfl, rfl, by omega, by omega, Nat.zero_le _, by omega, HN.out, S0, ⟨dn_zero _ _ _, permIn_refl _ _ _, fun _ _ => rfl⟩⟩
  case round =>
    clear S0
    obtain ⟨a, b, dk, rfl, rfl, hb1, hb2, han, hg1, hds, S1, V1⟩ := hrel
    by_cases hlt : b ≤ n
    · have hltz : (b : Int) ≤ (n : Int) := by omega
      have hcall := IN.out a b dk wr hds S1.out (by omega) hlt V1.out.2.2
      go_wp2_with (go_at_fn 156; refine hcall.mono ?_; rintro e1 w1 ⟨rfl, d1, T1, X1, P1⟩)
      clear S1
      go_roundg (n + 1 - b)
      case measure => omega
      case rel =>
        have hz : d1.size = n := P1.1.trans hds
        have hsg : Seg d1 a b := seg_put P1 (by omega) X1 (fun t x y => by rw [V1.out.2.2 t x, HI.out t (by omega)]; omega)
        have hb : b = a + 20 := by omega
        refine ⟨b, b + 20, d1, rfl, by go_num, by omega, by omega, hlt, Nat.le_refl _, hz, T1, ⟨?_, perm_on V1.out.2.1 (perm_sub P1 (Nat.zero_le _) hlt (by omega)), fun t ht => ?_⟩⟩
        · rw [hb] at P1 hsg hlt ⊢
          exact dn_more V1.out.1 hlt P1 hsg
        · rw [P1.2.1 t (Or.inr ht)]; exact V1.out.2.2 t (by omega)
    · have hltz : ¬ (b : Int) ≤ (n : Int) := by omega
      have hcall := IN.out a n dk wr hds S1.out han (Nat.le_refl _) V1.out.2.2
      go_wp2_with (go_at_fn 156; refine hcall.mono ?_; rintro e1 w1 ⟨rfl, d1, T1, X1, P1⟩)
      clear S1 hcall
      have hz : d1.size = n := P1.1.trans hds
      have T1 : Aside (SP enc k w0 blk off d1 w1) := T1
      have V2 : Aside (Bl 20 n d1 0 ∧ PermIn 0 n d d1) := ⟨dn_end V1.out.1 (by omega) P1 (seg_put P1 (by omega) X1 (fun t x y => by rw [V1.out.2.2 t x, HI.out t (by omega)]; omega)), perm_on V1.out.2.1 (perm_sub P1 (Nat.zero_le _) (Nat.le_refl _) (by omega))⟩
      clear V1 X1 P1
      go_loopg [6, 7, 8, 9] n (fun g1 v6 v7 v8 v9 wr => ∃ (s : Nat) (dj : Array El), v6 = .int .i64 s ∧ 20 ≤ s ∧ s ≤ 4000000 ∧ n - s ≤ g1 ∧ dj.size = n ∧ Aside (SP enc k w0 blk off dj wr) ∧ Aside (Bl s n dj 0 ∧ PermIn 0 n d dj))
      case atStart => exact ⟨20, d1, rfl, by omega, by omega, by omega, hz, T1, V2⟩
      case round =>
        clear T1 V2
        obtain ⟨s, dj, rfl, hs20, hsn, hg2, hdj, S2, V2⟩ := hrel
        by_cases hsl : s < n
        · have hslz : (s : Int) < (n : Int) := by omega
          obtain ⟨s2, hs2⟩ : ∃ s2, 2 * s = s2 := ⟨_, rfl⟩
          have hs2a : 2 * s ≤ s2 := by omega
          have hs2b : s2 ≤ 2 * s := by omega
          have e2s : 2 * (s : Int) = (s2 : Int) := by omega
          have es2 : (s : Int) * 2 = (s2 : Int) := by omega
          have HS2 : Aside (2 * s = s2) := hs2
          clear hs2
          go_wp2
          go_loopg [7, 8] (n + 1) (fun g2 v7 v8 wr2 => ∃ (a b : Nat) (dq : Array El), v7 = .int .i64 a ∧ v8 = .int .i64 b ∧ b ≤ a + 2 * s ∧ a + 2 * s ≤ b ∧ a ≤ n ∧ n + 1 - a ≤ g2 ∧ dq.size = n ∧ Aside (SP enc k w0 blk off dq wr2) ∧ Aside (Dn (2 * s) n dq a ∧ Bl s n dq a ∧ PermIn 0 n d dq))
          case atStart => exact ⟨0, s2, dj, rfl, rfl, by omega, by omega, Nat.zero_le _, by omega, hdj, S2, ⟨dn_zero _ _ _, V2.out.1, V2.out.2⟩⟩
          case round =>
            clear S2 V2
            obtain ⟨a, b, dq, rfl, rfl, hb1, hb2, han, hg3, hdq, S3, V3⟩ := hrel
            by_cases hlt2 : b ≤ n
            · have hltz2 : (b : Int) ≤ (n : Int) := by omega
              have hcall := ME.out a (a + s) b dq wr hdq S3.out (by omega) (by omega) hlt2 (bl_first V3.out.2.1 (by omega)) (by rw [show b = a + 2 * s by omega]; exact bl_second V3.out.2.1 (by omega))
              rw [show ((a + s : Nat) : Int) = (a : Int) + (s : Int) by omega] at hcall
              go_wp2_with (go_at_fn 157; refine hcall.mono ?_; rintro e1 w3 ⟨rfl, d3, T3, X3, P3⟩)
              clear hcall
              go_roundg (n + 1 - b)
              case measure => omega
              case rel =>
                have hz3 : d3.size = n := P3.1.trans hdq
                have hsg : Seg d3 a b := seg_two P3 (by omega) X3 (bl_first V3.out.2.1 (by omega)) (by rw [show b = a + 2 * s by omega]; exact bl_second V3.out.2.1 (by omega)) (by omega) (by omega)
                have hb : b = a + 2 * s := by omega
                refine ⟨b, b + s2, d3, rfl, by go_num, by omega, by omega, hlt2, Nat.le_refl _, hz3, T3, ?_⟩
                rw [hb] at P3 hsg hlt2 ⊢
                exact ⟨dn_more V3.out.1 hlt2 P3 hsg, bl_more V3.out.2.1 P3 hlt2, perm_on V3.out.2.2 (perm_sub P3 (Nat.zero_le _) hlt2 (by omega))⟩
            · have hltz2 : ¬ (b : Int) ≤ (n : Int) := by omega
              by_cases hm : a + s < n
              · have hmz : (a : Int) + (s : Int) < (n : Int) := by omega
                have hcall := ME.out a (a + s) n dq wr hdq S3.out (by omega) hm (Nat.le_refl _) (bl_first V3.out.2.1 (by omega)) (bl_second_cut V3.out.2.1 (by omega) (by omega))
                rw [show ((a + s : Nat) : Int) = (a : Int) + (s : Int) by omega] at hcall
                go_wp2_with (go_at_fn 157; refine hcall.mono ?_; rintro e1 w3 ⟨rfl, d3, T3, X3, P3⟩)
                clear hcall
                go_roundg (n - s2)
                case measure => omega
                case rel =>
                  have hz3 : d3.size = n := P3.1.trans hdq
                  have hsg : Seg d3 a n := seg_two P3 (by omega) X3 (bl_first V3.out.2.1 (by omega)) (bl_second_cut V3.out.2.1 (by omega) (by omega)) (by omega) (by omega)
                  refine ⟨s2, d3, rfl, by omega, by omega, Nat.le_refl _, hz3, T3, ?_⟩
                  rw [← HS2.out]
                  exact ⟨dn_end V3.out.1 (by omega) P3 hsg, perm_on V3.out.2.2 (perm_sub P3 (Nat.zero_le _) (Nat.le_refl _) (by omega))⟩
              · have hmz : ¬ (a : Int) + (s : Int) < (n : Int) := by omega
                go_wp2
                go_roundg (n - s2)
                case measure => omega
                case rel =>
                  have hsg : Seg dq a n := bl_first_cut V3.out.2.1 han (by omega)
                  refine ⟨s2, dq, rfl, by omega, by omega, Nat.le_refl _, hdq, S3, ?_⟩
                  rw [← HS2.out]
                  exact ⟨dn_end V3.out.1 (by omega) (permIn_refl _ _ _) hsg, V3.out.2.2⟩
        · have hslz : ¬ (s : Int) < (n : Int) := by omega
          go_wp2
          go_end0
          exact ⟨rfl, dj, S2.out, (bl_first_cut V2.out.1 (Nat.zero_le _) (by omega)).1, V2.out.2⟩
end Go.Proofs.YtnlnkjaapdefiaaGreatDoor

