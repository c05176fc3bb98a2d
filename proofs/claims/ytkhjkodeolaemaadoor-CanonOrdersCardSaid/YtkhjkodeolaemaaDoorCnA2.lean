/- Layer 7: what the stable sort asks of this program holds; the code's sort, and its test whether places are in order. -/
import Derived.Test.YtkhjkodeolaemaaDoorCnA1
namespace Go.Proofs.YtkhjkodeolaemaaDoor
set_option linter.unusedSimpArgs false
set_option linter.unusedVariables false
open Go.Shelf Go.RowKit Go.Lib Go.Sort
open Stb

theorem prg : Prg Tryd.prog 3 where
  mixed := by kernel_rfl
  t0 := Tryd.underlying0
  a0 := Tryd.isAgg0
  z0 := Tryd.sizeOf0
  v0 := Tryd.zeroValue0
  t3 := Tryd.underlying3
  a3 := Tryd.isAgg3
  z3 := Tryd.sizeOf3
  v3 := Tryd.zeroValue3
  t4 := Tryd.underlying4
  a4 := Tryd.isAgg4
  z4 := Tryd.sizeOf4
  v4 := Tryd.zeroValue4
  tU := Tryd.underlying75
  tS := Tryd.underlying35
  aS := Tryd.isAgg35
  zS := Tryd.sizeOf35
  vS := Tryd.zeroValue35
  tF := Tryd.underlying40
  aF := Tryd.isAgg40
  zF := Tryd.sizeOf40
  vF := Tryd.zeroValue40
  aE := Tryd.isAgg39
  zE := Tryd.sizeOf39
  fSw := Tryd.func71
  fRo := Tryd.func65
  fIn := Tryd.func56
  fSy := Tryd.func57
  fSt := Tryd.func40
  eSw := enters_of Tryd.func71 (by kernel_rfl) rfl
  eRo := enters_of Tryd.func65 (by kernel_rfl) rfl
  eIn := enters_of Tryd.func56 (by kernel_rfl) rfl
  eSy := enters_of Tryd.func57 (by kernel_rfl) rfl
  eSt := enters_of Tryd.func40 (by kernel_rfl) rfl

/-- a place's three cells -/
def encP (x : El) : List Value := [.int .i64 x.1, .int .i64 x.2.1, .int .i64 x.2.2.1]
theorem encP_len (x : El) : (encP x).length = 3 := rfl
theorem encP_one (x : El) : ∀ v ∈ encP x, v.oneCell' = true := by
  intro v hv
  simp only [encP, List.mem_cons, List.not_mem_nil, or_false] at hv
  rcases hv with rfl | rfl | rfl <;> rfl

theorem cmp_lays (blk off size : Nat) (w : World) : CmpLays Tryd.prog 26 #[] encP 3 cfE blk off size w := fun _ _ _ _ x y => comparing x y _
theorem cmp_enters : ∀ args w, (callFunc 26 args).run Tryd.prog w = .ok (.enter 26 args) w := enters_of Tryd.func26 (by kernel_rfl) rfl

theorem below_swk {B blk : Nat} {d : Array El} {w w' : World} (h : SWK encP 3 w blk 0 d w') (hB : B ≤ blk) (hb : blk < w.heap.size) : Below B w w' := by
  obtain ⟨n, os, rfl⟩ := h
  unfold sortWorldK putRowK putRow mapBlock grow
  refine ⟨rfl, rfl, rfl, by simp [Sort.ahead], fun i hi => ?_⟩
  show ((Array.modify w.heap blk _) ++ os)[i]? = _
  rw [Array.getElem?_append_left (by simp; omega), Array.getElem?_modify, if_neg (by omega)]

set_option maxHeartbeats 1600000 in
theorem sortStable_any (blk cap : Nat) (d : Array El) (w : World) (hH : HoldsK encP 3 w blk 0 d) (hb : blk < w.heap.size) (hsz : d.size ≤ 1000000) (hid : ∀ t, t < d.size → (d[t]!).2.2.2 = t) :
    Calls Tryd.prog 25 #[.slice (some ⟨blk, 0, none⟩) d.size cap, .func (.func 26) #[] #[]] w fun e w' =>
      e = .returned (.tuple #[]) ∧ ∃ d' : Array El, HoldsK encP 3 w' blk 0 d' ∧ blk < w'.heap.size ∧ Below blk w w' ∧ St d' 0 d.size ∧ PermIn 0 d.size d d' := by
  have h := stable_any prg encP cfE cfE_kl 26 #[] blk 0 cap d d w w cmp_enters (cmp_lays blk 0 d.size w) ⟨encP_len, encP_one, hH, hb⟩ rfl (SWK.start hH) hsz hid
  obtain ⟨n, hn⟩ : ∃ n, d.size = n := ⟨_, rfl⟩
  rw [hn] at h ⊢
  have H := Lib.hid h
  have HH := Lib.hid hH
  clear h hH hid
  replace hn := Lib.hid hn
  go_enter Tryd.func25, Tryd.ntmps25
  go_wp2_with (go_at_call 40; refine H.out.mono ?_; rintro e w1 ⟨rfl, d', S, hs, hp⟩)
  go_end0
  exact ⟨rfl, d', S.holds hb HH.out hp.1, S.lt hb, below_swk S (Nat.le_refl _) hb, hs, hp⟩

/-- no place stands ahead of the one ahead of it -/
def downP (d : Array El) : Bool := (List.range (d.size - 1)).all fun i => !decide (KL d[i + 1]! d[i]!)

set_option maxHeartbeats 4000000 in
set_option maxRecDepth 1000000 in
theorem isSorted_abs {P : Program} {k : Nat} (L : Prg P k) (F : P.funcs[29]? = some Tryd.f29)
    (enc : El → List Value) (cf : El → El → Int) (hk : ∀ x y, cf x y < 0 ↔ KL x y) (g : Nat) (cb : Array Value) (blk off cap : Nat) (d : Array El) (w0 : World)
    (eg : ∀ args w, (callFunc g args).run P w = .ok (.enter g args) w) (hcmp : CmpLays P g cb enc k cf blk off d.size w0) (R : RP enc k w0 blk off d) (hsz : d.size ≤ 1000000) :
    Calls P 29 #[.slice (some ⟨blk, off, none⟩) d.size cap, .func (.func g) #[] cb] w0 fun e w' =>
      e = .returned (.bool (downP d)) ∧ SP enc k w0 blk off d w' := by
  have mixed := L.mixed; have t0 := L.t0; have a0 := L.a0; have z0 := L.z0; have v0 := L.v0; have t3 := L.t3; have a3 := L.a3; have z3 := L.z3; have v3 := L.v3; have t4 := L.t4; have a4 := L.a4; have z4 := L.z4; have v4 := L.v4; have tU := L.tU; have tS := L.tS; have aS := L.aS; have zS := L.zS; have vS := L.vS; have tF := L.tF; have aF := L.aF; have zF := L.zF; have vF := L.vF; have aE := L.aE; have zE := L.zE; have eSw := L.eSw; have eRo := L.eRo; have eIn := L.eIn; have eSy := L.eSy; have eSt := L.eSt
  have S0 : Aside (SP enc k w0 blk off d w0) := SWK.start R.hH
  have HC : Aside _ := hcmp
  have HK : Aside _ := hk
  have HT : Aside ((∀ j : Nat, 0 ≤ j → j + 1 < d.size → ¬ KL d[j + 1]! d[j]!) → downP d = true) := fun h => by
    unfold downP
    rw [List.all_eq_true]
    intro j hj
    have hj' := List.mem_range.1 hj
    simpa using h j (Nat.zero_le _) (by omega)
  have HF : Aside (∀ j : Nat, j + 1 < d.size → KL d[j + 1]! d[j]! → downP d = false) := fun j hj h => by
    unfold downP
    rw [List.all_eq_false]
    exact ⟨j, List.mem_range.2 (by omega), by simpa using h⟩
  obtain ⟨B, hB⟩ : ∃ B, downP d = B := ⟨_, rfl⟩
  rw [hB]
  rw [hB] at HT HF
  clear hcmp hk hB
  go_enter F, Tryd.ntmps29
  clear L F
  go_wp2
  go_loopg [5] (d.size + 1) (fun gg v wr => ∃ i : Int, v = .int .i64 i ∧ i < d.size ∧ -1 ≤ i ∧ i < gg ∧ Aside (SP enc k w0 blk off d wr) ∧ Aside (∀ j : Nat, i ≤ j → j + 1 < d.size → ¬ KL d[j + 1]! d[j]!))
  case atStart => exact ⟨(d.size : Int) - 1, rfl, by omega, by omega, by omega, S0, fun j h1 h2 => by omega⟩
  case round =>
    clear S0
    obtain ⟨i, rfl, hin, hi1, hg, S1, V1⟩ := hrel
    by_cases hlt : 0 < i
    · obtain ⟨j, rfl⟩ : ∃ j : Nat, i = (j : Int) + 1 := ⟨(i - 1).toNat, by omega⟩
      have hj1 : j + 1 < d.size := by omega
      have hltB : decide ((j : Int) + 1 > 0) = true := decide_eq_true (by omega)
      by_cases hq : KL d[j + 1]! d[j]!
      · have HQ : Aside _ := HF.out j hj1 hq
        have eea : ((j : Int) + 1).toNat = j + 1 := by omega
        have pea : (0 : Int) ≤ (j : Int) + 1 := by omega
        have bea : (j : Int) + 1 < (d.size : Int) := by omega
        have rea : IntKind.i64.wrap ((j : Int) + 1) = (j : Int) + 1 := by rw [IntKind.wrap_i64]; omega
        have eeb : ((j : Int)).toNat = j := by omega
        have peb : (0 : Int) ≤ (j : Int) := by omega
        have beb : (j : Int) < (d.size : Int) := by omega
        have reb : IntKind.i64.wrap ((j : Int)) = (j : Int) := by rw [IntKind.wrap_i64]; omega
        obtain ⟨xa, hxa⟩ : ∃ zz, zz = d[j + 1]! := ⟨_, rfl⟩
        obtain ⟨xb, hxb⟩ : ∃ zz, zz = d[j]! := ⟨_, rfl⟩
        have l1 := S1.out.ld R (by omega) P (j + 1) (by omega)
        have l2 := S1.out.ld R (by omega) P (j) (by omega)
        rw [← hxa] at l1
        rw [← hxb] at l2
        have hc := S1.out.cmp HC.out (by omega) xa xb
        have hv : cf xa xb < 0 := by rw [hxa, hxb]; exact (HK.out _ _).2 hq
        have hd : decide (cf xa xb < 0) = true := decide_eq_true hv
        clear hxa hxb
        go_wp2_with fail
        go_quiet_grown (first | (go_at_fn g; refine Calls.grown_of (hc _ _)))
        have S2 : Aside (SP enc k w0 blk off d (grow (wr.drewN nq) osq)) := S1.out.grown nq osq
        clear l1 l2 hc S1
        generalize grow (wr.drewN nq) osq = w2 at S2 ⊢
        clear nq osq
        clear hq
        go_wp2
        go_ret
        rw [HQ.out]
        exact ⟨rfl, S2.out⟩
      · have HQ : Aside (¬ KL d[j + 1]! d[j]!) := hq
        have eea : ((j : Int) + 1).toNat = j + 1 := by omega
        have pea : (0 : Int) ≤ (j : Int) + 1 := by omega
        have bea : (j : Int) + 1 < (d.size : Int) := by omega
        have rea : IntKind.i64.wrap ((j : Int) + 1) = (j : Int) + 1 := by rw [IntKind.wrap_i64]; omega
        have eeb : ((j : Int)).toNat = j := by omega
        have peb : (0 : Int) ≤ (j : Int) := by omega
        have beb : (j : Int) < (d.size : Int) := by omega
        have reb : IntKind.i64.wrap ((j : Int)) = (j : Int) := by rw [IntKind.wrap_i64]; omega
        obtain ⟨xa, hxa⟩ : ∃ zz, zz = d[j + 1]! := ⟨_, rfl⟩
        obtain ⟨xb, hxb⟩ : ∃ zz, zz = d[j]! := ⟨_, rfl⟩
        have l1 := S1.out.ld R (by omega) P (j + 1) (by omega)
        have l2 := S1.out.ld R (by omega) P (j) (by omega)
        rw [← hxa] at l1
        rw [← hxb] at l2
        have hc := S1.out.cmp HC.out (by omega) xa xb
        have hv : ¬ cf xa xb < 0 := by rw [hxa, hxb]; exact fun h => hq ((HK.out _ _).1 h)
        have hd : decide (cf xa xb < 0) = false := decide_eq_false hv
        clear hxa hxb
        go_wp2_with fail
        go_quiet_grown (first | (go_at_fn g; refine Calls.grown_of (hc _ _)))
        have S2 : Aside (SP enc k w0 blk off d (grow (wr.drewN nq) osq)) := S1.out.grown nq osq
        clear l1 l2 hc S1
        generalize grow (wr.drewN nq) osq = w2 at S2 ⊢
        clear nq osq
        clear hq
        go_wp2
        go_roundg (j + 1)
        case measure => omega
        case rel =>
          refine ⟨(j : Int), by first | rfl | go_num | (congr 1; omega), by omega, by omega, by omega, S2, fun t ht h => ?_⟩
          rcases (show t = j ∨ j + 1 ≤ t by omega) with rfl | h2
          · exact HQ.out
          · exact V1.out t (by omega) h
    · have hltB : decide (i > 0) = false := decide_eq_false hlt
      have HQ : Aside _ := HT.out (fun j _ h => V1.out j (by omega) h)
      go_wp2
      go_ret
      rw [HQ.out]
      exact ⟨rfl, S1.out⟩

theorem isSorted_any (blk cap : Nat) (d : Array El) (w : World) (hH : HoldsK encP 3 w blk 0 d) (hb : blk < w.heap.size) (hsz : d.size ≤ 1000000) :
    Calls Tryd.prog 29 #[.slice (some ⟨blk, 0, none⟩) d.size cap, .func (.func 26) #[] #[]] w fun e w' =>
      e = .returned (.bool (downP d)) ∧ Below blk w w' := by
  refine (isSorted_abs prg Tryd.func29 encP cfE cfE_kl 26 #[] blk 0 cap d w cmp_enters (cmp_lays blk 0 d.size w) ⟨encP_len, encP_one, hH, hb⟩ hsz).mono ?_
  rintro e w' ⟨rfl, S⟩
  exact ⟨rfl, below_swk S (Nat.le_refl _) hb⟩
end Go.Proofs.YtkhjkodeolaemaaDoor
