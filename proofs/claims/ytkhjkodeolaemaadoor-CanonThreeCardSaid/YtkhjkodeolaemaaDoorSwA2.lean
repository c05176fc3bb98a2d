/- Layer 7: the stable sort's parts over rows of places: a short row is put in order, one by one. -/
import Derived.Test.YtkhjkodeolaemaaDoorSwA1
namespace Go.Proofs.YtkhjkodeolaemaaDoor
set_option linter.unusedSimpArgs false
set_option linter.unusedVariables false
open Go.Shelf Go.RowKit Go.Lib Go.Sort
open Stb
variable {P : Program} {k : Nat}

theorem ah_of_perm {a i b : Nat} {d dk : Array El} (p : PermIn a i d dk) (hi : i ≤ d.size) (h : ∀ x y, a ≤ x → x < y → y < b → (d[x]!).2.2.2 < (d[y]!).2.2.2) : Ah dk a i b := fun x y h1 h2 h3 h4 => by
  rw [p.2.1 y (Or.inr h3)]
  exact permIn_all d dk a i (fun e => e.2.2.2 < (d[y]!).2.2.2) hi p (fun z z1 z2 => h z y z1 (by omega) h4) x h1 h2

set_option maxHeartbeats 4000000 in
set_option maxRecDepth 1000000 in
theorem insertion_any (L : Prg P k) (enc : El → List Value) (cf : El → El → Int) (hk : ∀ x y, cf x y < 0 ↔ KL x y) (g : Nat) (cb : Array Value) (blk off cap a b : Nat) (d0 d : Array El) (w0 w : World)
    (eg : ∀ args w, (callFunc g args).run P w = .ok (.enter g args) w) (hcmp : CmpLays P g cb enc k cf blk off d0.size w0)
    (R : RP enc k w0 blk off d0) (hs : d0.size = d.size) (S : SP enc k w0 blk off d w) (hab : a ≤ b) (hb : b ≤ d.size) (hsz : d.size < 4611686018427387904)
    (hid : ∀ i j, a ≤ i → i < j → j < b → (d[i]!).2.2.2 < (d[j]!).2.2.2) :
    Calls P 56 #[.slice (some ⟨blk, off, none⟩) d.size cap, .int .i64 a, .int .i64 b, .func (.func g) #[] cb] w
      (Rowed enc k w0 blk off fun d' => St d' a b ∧ PermIn a b d d') := by
  have mixed := L.mixed; have t0 := L.t0; have a0 := L.a0; have z0 := L.z0; have v0 := L.v0; have t3 := L.t3; have a3 := L.a3; have z3 := L.z3; have v3 := L.v3; have t4 := L.t4; have a4 := L.a4; have z4 := L.z4; have v4 := L.v4; have tU := L.tU; have tS := L.tS; have aS := L.aS; have zS := L.zS; have vS := L.vS; have tF := L.tF; have aF := L.aF; have zF := L.zF; have vF := L.vF; have aE := L.aE; have zE := L.zE; have eSw := L.eSw; have eRo := L.eRo; have eIn := L.eIn; have eSy := L.eSy; have eSt := L.eSt
  have S0 : Aside (SP enc k w0 blk off d w) := S
  have HC : Aside _ := hcmp
  have HK : Aside _ := hk
  have HI : Aside _ := hid
  clear S hcmp hk hid
  go_enter L.fIn, Tryd.ntmps56
  go_wp2
  go_loopg [8] (b + 1 - a) (fun g1 vi wr => ∃ (i : Nat) (dk : Array El), vi = .int .i64 i ∧ a < i ∧ (i ≤ b ∨ i = a + 1) ∧ b + 1 - i ≤ g1 ∧ dk.size = d.size ∧ Aside (SP enc k w0 blk off dk wr) ∧ Aside ((i ≤ b → St dk a i ∧ PermIn a i d dk) ∧ (b < i → dk = d)))
  case atStart => exact ⟨a + 1, d, by go_num, by omega, Or.inr rfl, by omega, rfl, S0, ⟨fun _ => ⟨st_one _ _, permIn_refl _ _ _⟩, fun _ => rfl⟩⟩
  case round =>
    clear S0
    obtain ⟨i, dk, rfl, hai, hib, hg1, hds, S1, V1⟩ := hrel
    by_cases hlt : i < b
    · have hltz : (i : Int) < (b : Int) := by omega
      have V2 : Aside (St dk a i ∧ PermIn a i d dk) := V1.out.1 (by omega)
      clear V1
      go_wp2
      go_loopg [9] i (fun g2 vj wr2 => ∃ (j : Nat) (dj : Array El), vj = .int .i64 j ∧ a ≤ j ∧ j ≤ i ∧ j ≤ g2 ∧ dj.size = d.size ∧ Aside (SP enc k w0 blk off dj wr2) ∧ Aside (Via (dR j i) dk dj ∧ PermIn a (i + 1) d dj ∧ (j = i ∨ KL dk[i]! dk[j]!)))
      case atStart => exact ⟨i, dk, rfl, by omega, Nat.le_refl _, Nat.le_refl _, hds, S1, ⟨via_down0 _ _, perm_sub V2.out.2 (Nat.le_refl _) (by omega) (by omega), Or.inl rfl⟩⟩
      case round =>
        clear S1
        obtain ⟨j, dj, rfl, haj, hji, hg2, hsj, S1, V3⟩ := hrel
        have out : (j = a ∨ ¬ KL dk[i]! dk[j - 1]!) → Aside (St dj a (i + 1) ∧ PermIn a (i + 1) d dj) := fun hst =>
          ⟨insert_down V3.out.1 (by omega) haj hji V2.out.1 (ah_of_perm V2.out.2 (by omega) (fun x y h1 h2 h3 => HI.out x y h1 h2 (by omega))) hst V3.out.2.2, V3.out.2.1⟩
        have OUT : Aside _ := out
        clear out
        by_cases hja : a < j
        · have hjaz : (a : Int) < (j : Int) := by omega
          obtain ⟨jp, rfl⟩ : ∃ jp, j = jp + 1 := ⟨j - 1, by omega⟩
          have hjaz' : (a : Int) < (jp : Int) + 1 := by omega
          have hej : dj[jp + 1]! = dk[i]! := by
            rw [V3.out.1.2 _ (by omega)]
            unfold dR
            rw [if_pos rfl]
          have hep : dj[jp]! = dk[jp]! := by
            rw [V3.out.1.2 _ (by omega)]
            unfold dR
            rw [if_neg (by omega), if_neg (by omega)]
          by_cases hq : KL dj[jp + 1]! dj[jp]!
          · have HQ : Aside (KL dk[i]! dk[jp]!) := by rw [hej, hep] at hq; exact hq
            clear hej hep
            have eea : ((jp : Int) + 1).toNat = jp + 1 := by omega
            have pea : (0 : Int) ≤ (jp : Int) + 1 := by omega
            have bea : (jp : Int) + 1 < (d.size : Int) := by omega
            have rea : IntKind.i64.wrap ((jp : Int) + 1) = (jp : Int) + 1 := by rw [IntKind.wrap_i64]; omega
            have eeb : ((jp : Int)).toNat = jp := by omega
            have peb : (0 : Int) ≤ (jp : Int) := by omega
            have beb : (jp : Int) < (d.size : Int) := by omega
            have reb : IntKind.i64.wrap ((jp : Int)) = (jp : Int) := by rw [IntKind.wrap_i64]; omega
            obtain ⟨xa, hxa⟩ : ∃ zz, zz = dj[jp + 1]! := ⟨_, rfl⟩
            obtain ⟨xb, hxb⟩ : ∃ zz, zz = dj[jp]! := ⟨_, rfl⟩
            have l1 := S1.out.ld R (by omega) P (jp + 1) (by omega)
            have l2 := S1.out.ld R (by omega) P (jp) (by omega)
            rw [← hxa] at l1
            rw [← hxb] at l2
            have hc := S1.out.cmp HC.out (by omega) xa xb
            have hv : cf xa xb < 0 := by rw [hxa, hxb]; exact (HK.out _ _).2 hq
            have hd : decide (cf xa xb < 0) = true := decide_eq_true hv
            clear hxa hxb
            go_wp2_with fail
            go_quiet_grown (first | (go_at_fn g; refine Calls.grown_of (hc _ _)))
            have S2 : Aside (SP enc k w0 blk off dj (grow (wr.drewN nq) osq)) := S1.out.grown nq osq
            clear l1 l2 hc S1
            generalize grow (wr.drewN nq) osq = w2 at S2 ⊢
            clear nq osq
            clear hq
            have eea : ((jp : Int) + 1).toNat = jp + 1 := by omega
            have pea : (0 : Int) ≤ (jp : Int) + 1 := by omega
            have bea : (jp : Int) + 1 < (d.size : Int) := by omega
            have rea : IntKind.i64.wrap ((jp : Int) + 1) = (jp : Int) + 1 := by rw [IntKind.wrap_i64]; omega
            have eeb : ((jp : Int)).toNat = jp := by omega
            have peb : (0 : Int) ≤ (jp : Int) := by omega
            have beb : (jp : Int) < (d.size : Int) := by omega
            have reb : IntKind.i64.wrap ((jp : Int)) = (jp : Int) := by rw [IntKind.wrap_i64]; omega
            have S3 : Aside (SP enc k w0 blk off (swp dj (jp + 1) (jp)) ((w2.drew.setCells blk (off + (jp + 1) * k) (enc dj[jp]!)).setCells blk (off + (jp) * k) (enc dj[jp + 1]!))) := S2.out.swapped R (jp + 1) (jp) (by omega) (by omega)
            have l1 := S2.out.ld1 R (by omega) P (jp + 1) (by omega)
            have l2 := S2.out.ld1 R (by omega) P (jp) (by omega)
            have s1 := S2.out.st1 R (by omega) P (jp + 1) (by omega) dj[jp]!
            have s2 := S2.out.st2 R (by omega) P (jp + 1) (jp) (by omega) (by omega) dj[jp]! dj[jp + 1]!
            have n1 : (enc dj[jp + 1]!).length = k := R.hk _
            have n2 : (enc dj[jp]!).length = k := R.hk _
            generalize enc dj[jp + 1]! = cI at S3 l1 s2 n1
            generalize enc dj[jp]! = cJ at S3 l2 s1 s2 n2
            clear S2
            go_wp2_with fail
            go_big_region_o
            clear l1 l2 s1 s2
            generalize (w2.drew.setCells blk (off + (jp + 1) * k) cJ).setCells blk (off + (jp) * k) cI = w3 at S3 ⊢
            go_wp2
            go_roundg jp
            case measure => omega
            case rel => exact ⟨jp, swp dj (jp + 1) jp, by first | rfl | go_num | (congr 1; omega), by omega, by omega, Nat.le_refl _, by rw [size_swp]; exact hsj, S3, ⟨via_down (by omega) (by omega) V3.out.1, perm_swp V3.out.2.1 (by omega) (by omega) (by omega), Or.inr HQ.out⟩⟩
          · have HQ : Aside (¬ KL dk[i]! dk[jp]!) := by rw [hej, hep] at hq; exact hq
            clear hej hep
            have eea : ((jp : Int) + 1).toNat = jp + 1 := by omega
            have pea : (0 : Int) ≤ (jp : Int) + 1 := by omega
            have bea : (jp : Int) + 1 < (d.size : Int) := by omega
            have rea : IntKind.i64.wrap ((jp : Int) + 1) = (jp : Int) + 1 := by rw [IntKind.wrap_i64]; omega
            have eeb : ((jp : Int)).toNat = jp := by omega
            have peb : (0 : Int) ≤ (jp : Int) := by omega
            have beb : (jp : Int) < (d.size : Int) := by omega
            have reb : IntKind.i64.wrap ((jp : Int)) = (jp : Int) := by rw [IntKind.wrap_i64]; omega
            obtain ⟨xa, hxa⟩ : ∃ zz, zz = dj[jp + 1]! := ⟨_, rfl⟩
            obtain ⟨xb, hxb⟩ : ∃ zz, zz = dj[jp]! := ⟨_, rfl⟩
            have l1 := S1.out.ld R (by omega) P (jp + 1) (by omega)
            have l2 := S1.out.ld R (by omega) P (jp) (by omega)
            rw [← hxa] at l1
            rw [← hxb] at l2
            have hc := S1.out.cmp HC.out (by omega) xa xb
            have hv : ¬ cf xa xb < 0 := by rw [hxa, hxb]; exact fun h => hq ((HK.out _ _).1 h)
            have hd : decide (cf xa xb < 0) = false := decide_eq_false hv
            clear hxa hxb
            go_wp2_with fail
            go_quiet_grown (first | (go_at_fn g; refine Calls.grown_of (hc _ _)))
            have S2 : Aside (SP enc k w0 blk off dj (grow (wr.drewN nq) osq)) := S1.out.grown nq osq
            clear l1 l2 hc S1
            generalize grow (wr.drewN nq) osq = w2 at S2 ⊢
            clear nq osq
            clear hq
            go_wp2
            go_roundg (b + 1 - (i + 1))
            case measure => omega
            case rel => exact ⟨i + 1, dj, by go_num, by omega, by omega, Nat.le_refl _, hsj, S2, ⟨fun _ => OUT.out (Or.inr (by simp only [Nat.add_sub_cancel]; exact HQ.out)), fun h => by omega⟩⟩
        · have hjaB : decide ((j : Int) > (a : Int)) = false := decide_eq_false (by omega)
          have hjaz' : ¬ (a : Int) < (j : Int) := by omega
          have S2 : Aside (SP enc k w0 blk off dj wr.drew) := S1.out.drew
          clear S1
          go_wp2_with fail
          go_big_region_o
          all_goals go_wp2
          go_roundg (b + 1 - (i + 1))
          case measure => omega
          case rel => exact ⟨i + 1, dj, by go_num, by omega, by omega, Nat.le_refl _, hsj, S2, ⟨fun _ => OUT.out (Or.inl (by omega)), fun h => by omega⟩⟩
    · have hltz : ¬ (i : Int) < (b : Int) := by omega
      go_wp2
      go_end0
      rcases Nat.lt_or_ge b i with h | h
      · rw [V1.out.2 h] at S1
        exact ⟨rfl, d, S1.out, fun x y h1 h2 h3 => by omega, permIn_refl _ _ _⟩
      · have h2 := V1.out.1 h
        rw [show i = b by omega] at h2
        exact ⟨rfl, dk, S1.out, h2⟩
end Go.Proofs.YtkhjkodeolaemaaDoor
