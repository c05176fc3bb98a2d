/- Texts that stand together. -/
import Derived.Test.YtiidjkhkcckmkaaGreatDoorBasP
import Derived.Test.YtiidjkhkcckmkaaGreatDoorMthP
import Derived.Test.YtiidjkhkcckmkaaGreatDoorPaRP
import Derived.Deep.LoopGhost
import Derived.Deep.DeepCutAuto
import Derived.KernelRfl
/- Layer 4: the document's own table and answers. -/
namespace Go.Proofs.YtiidjkhkcckmkaaGreatDoor
set_option linter.unusedSimpArgs false
set_option linter.unusedVariables false
open Go.RowKit Go.Lib
noncomputable def tabCode (S : ByteArray) : Code :=
  ((Go.Code.region 0 #[{ dst := some 0, op := Go.Op.assign (Go.Operand.const (Go.Value.string { data := #[] })), type := 9, pos := "ref.go:5", after := #[], guard := none }] false).seq ((Go.Code.region 1 #[{ dst := some 0, op := Go.Op.assign (Go.Operand.const (Go.Value.string S)), type := 9, pos := "ref.go:6", after := #[], guard := none }] false).seq Go.Code.ret))
noncomputable def tabS : ByteArray :=
  match Tryz.f106.body with
  | some (.seq _ (.seq (.region _ ops _) _)) => (match ops[0]? with
    | some o => (match o.op with | .assign (.const (.string s)) => s | _ => ⟨#[]⟩)
    | none => ⟨#[]⟩)
  | _ => ⟨#[]⟩
theorem tabCode_is : Tryz.f106.body = some (tabCode tabS) := by kernel_rfl
theorem tabS_rows : Lk.rows tabS.data.toList [] 0 = Dcp.T := by decide +kernel
theorem tabS_size : tabS.size ≤ 100000 := by decide +kernel
theorem table_any (w : World) :
    Calls Tryz.prog 106 #[] w fun e w' => e = .returned (.string tabS) ∧ w = w' := by
  have hcode := tabCode_is
  obtain ⟨S, hS⟩ : ∃ S, tabS = S := ⟨_, rfl⟩
  rw [hS] at hcode ⊢
  replace hS := Lib.hid hS
  refine calls_of_wp Tryz.func106 hcode ?_
  clear hcode
  unfold tabCode
  simp only [Tryz.ntmps106, List.size_toArray, List.length_cons, List.length_nil, Nat.reduceAdd, Nat.reduceSub, Array.replicate_succ,
     Array.replicate_zero, List.push_toArray, List.append_toArray, List.nil_append, List.cons_append]
  go_wp2_with fail
  go_ret
  exact ⟨rfl, rfl⟩
end Go.Proofs.YtiidjkhkcckmkaaGreatDoor

/- The document's Find (layer 4's), of any layer that has it. -/
namespace Go.Proofs.YtiidjkhkcckmkaaGreatDoor
set_option linter.unusedSimpArgs false
set_option linter.unusedVariables false
open Go.RowKit Go.Lib
def FoundR (o : Option (List Int)) (w : World) (e : Ending) (w' : World) : Prop :=
  ∃ v, e = .returned (.tuple #[v, .bool o.isSome]) ∧ RI w' v (o.getD []) ∧ Below w.heap.size w w'
theorem drop_cons {L : List UInt8} {k : Nat} (h : k < L.length) : L.drop k = L[k] :: L.drop (k + 1) := by rw [List.drop_eq_getElem_cons h]
theorem headD_app {l : List Int} {x : Int} (h : 0 < (l ++ [x]).length) : (l ++ [x])[0] = (l ++ [x]).headD 0 := by
  cases l with
  | nil => rfl
  | cons a t => rfl
theorem tail_drop (l : List Int) : l.tail = l.drop 1 := by cases l <;> rfl
theorem own_first {B : Nat} {v : Value} {l : List Int} {x h : Int} {w : World} (hown : OwnI B v (l ++ [x]) w) (hl : 1 ≤ l.length) (hh : (l ++ [x]).headD 0 = h) :
    ∃ g cap, v = .slice (some ⟨g, 0, none⟩) (l.length + 1) cap ∧ l.length + 1 ≤ cap ∧ 1 < cap ∧ w.cell? ⟨g, 0, none⟩ = some (.int .i64 h) ∧ RI w (.slice (some ⟨g, 1, none⟩) l.length (cap - 1)) (l ++ [x]).tail := by
  obtain ⟨g, cap, rfl, hB, hlt, hcell⟩ := ownI_open hown (by simp)
  have hri := ri_of_own hown
  have hcap : (l ++ [x]).length ≤ cap := by
    rcases hri with ⟨h, _⟩ | ⟨a, c, he, hc, _⟩
    · simp at h
    · simp at he
      have := he.2
      omega
  have hlen : (l ++ [x]).length = l.length + 1 := by simp
  obtain ⟨b, off, he, hdrop⟩ := ri_drop hri 1 (by omega)
  simp at he
  obtain ⟨rfl, rfl⟩ := he
  rw [← tail_drop, hlen] at hdrop
  have h0 := hcell 0 (by simp)
  rw [headD_app (by simp), hh] at h0
  rw [hlen] at hcap ⊢
  exact ⟨g, cap, rfl, hcap, by omega, h0, by simpa using hdrop⟩
set_option maxHeartbeats 1600000 in
theorem rfind_any (S : ByteArray) (r : Int) (hS : S.size ≤ 100000) (hb : Lk.bdd S.data.toList 0 0 = true) (w : World) :
    Calls Tryz.prog 105 #[.string S, .int .i64 r] w (FoundR (Lk.scan S.data.toList [] 0 r) w) := by
  obtain ⟨i0, hi, hz0, hz1, hz2⟩ := info_parts info_i
  obtain ⟨o, ho⟩ : ∃ o, Lk.scan S.data.toList [] 0 r = o := ⟨_, rfl⟩
  rw [ho]
  replace hb := Lib.hid hb
  replace ho := Lib.hid ho
  go_enter Tryz.func105, Tryz.ntmps105
  go_wp2_with fail
  go_loopg [6, 7, 8] S.size (fun g lv v i wr => ∃ (k : Nat) (l : List Int) (x : Int), k ≤ S.size ∧ i = .int .i64 k ∧ v = .int .i64 x ∧ OwnI w.heap.size lv l wr ∧ Below w.heap.size w wr ∧ Lk.scan (S.data.toList.drop k) l x r = o ∧ Lk.bdd (S.data.toList.drop k) x l.length = true ∧ l.length ≤ k ∧ g = S.size - k)
  case atStart => exact ⟨0, [], 0, Nat.zero_le _, rfl, rfl, ownI_nil _ _, Below.refl _ _, ho.out, hb.out, Nat.le_refl _, rfl⟩
  case round =>
    obtain ⟨k, l, x, hk, rfl, rfl, hown, hbel, hsc, hbd, hlk, rfl⟩ := hrel
    by_cases hlt : k < S.size
    · have hlt' : (k : Int) < (S.size : Int) := by omega
      have hdr := drop_cons (L := S.data.toList) (k := k) (by simpa using hlt)
      obtain ⟨c, hc⟩ : ∃ c, S[k] = c := ⟨_, rfl⟩
      rw [show S.data.toList[k]'(by simpa using hlt) = c from hc] at hdr
      rw [hdr] at hsc hbd
      have hv := Lk.bdd_v hbd
      obtain ⟨hv1, hv2⟩ := hv
      have hmx : l.length + [x].length ≤ maxLen ∧ (l.length + [x].length) * 8 ≤ 140737488355328 := by unfold maxLen; simp; omega
      have hown2 := ownI_alloc hown (.cells #[.int .i64 x] 3)
      have hone := ri_src (ri_of_own (ownI_lit w.heap.size wr [x] #[.int .i64 x] wr.heap.size 1 rfl hbel.size rfl rfl (by unfold maxLen; omega)))
      have hbel2 := hbel.alloc hbel.size (.cells #[.int .i64 x] 3)
      replace hown2 := Lib.hid hown2
      replace hbel2 := Lib.hid hbel2
      replace hown := Lib.hid hown
      replace hbel := Lib.hid hbel
      clear hdr
      by_cases h61 : c.toNat = 61 ∨ c.toNat = 44
      · rw [Lk.scan_sep h61] at hsc
        have hbd2 := Lib.hid (Lk.bdd_sep hbd h61)
        replace hsc := Lib.hid hsc
        clear hbd
        rcases h61 with h61 | h61
        · have e1 : ((c.toNat : Int) == 61) = true := by rw [h61]; rfl
          clear h61
          go_wp2_with (at_builtin; refine wpList_append_src rfl _ _ 24 rfl w.heap.size 3 i0 (.int .i64 0) 8 Tryz.underlying24 hi hz0 hz1 hz2 rfl _ _ _ rfl hown2.out _ _ rfl hone (oneCellI [x]) (by simpa using hmx.1) (by simpa using hmx.2) hbel2.out.size ?_; intro v5 w5 hown5 hgrow5)
          have hown6 := ownI_of_row (l := l ++ [x]) hown5 (by simp) (by simp)
          have hbel6 := below_row hbel2.out hgrow5 hbel2.out.size hown2.out (Nat.le_refl _)
          go_roundg (S.size - (k + 1))
          case measure => omega
          case rel => exact ⟨k + 1, l ++ [x], 0, by omega, by go_num, rfl, hown6, hbel6, hsc.out, by simpa using hbd2.out, by simp; omega, rfl⟩
        · have e1 : ((c.toNat : Int) == 61) = false := by rw [h61]; rfl
          have e2 : ((c.toNat : Int) == 44) = true := by rw [h61]; rfl
          clear h61
          go_wp2_with (at_builtin; refine wpList_append_src rfl _ _ 24 rfl w.heap.size 3 i0 (.int .i64 0) 8 Tryz.underlying24 hi hz0 hz1 hz2 rfl _ _ _ rfl hown2.out _ _ rfl hone (oneCellI [x]) (by simpa using hmx.1) (by simpa using hmx.2) hbel2.out.size ?_; intro v5 w5 hown5 hgrow5)
          have hown6 := ownI_of_row (l := l ++ [x]) hown5 (by simp) (by simp)
          have hbel6 := below_row hbel2.out hgrow5 hbel2.out.size hown2.out (Nat.le_refl _)
          go_roundg (S.size - (k + 1))
          case measure => omega
          case rel => exact ⟨k + 1, l ++ [x], 0, by omega, by go_num, rfl, hown6, hbel6, hsc.out, by simpa using hbd2.out, by simp; omega, rfl⟩
      · have e1 : ((c.toNat : Int) == 61) = false := by simp; omega
        have e2 : ((c.toNat : Int) == 44) = false := by simp; omega
        by_cases h32 : c.toNat = 32
        · have e3 : ((c.toNat : Int) == 32) = true := by rw [h32]; rfl
          rw [Lk.scan_sp h32] at hsc
          obtain ⟨hl1, hbd2⟩ := Lk.bdd_sp hbd h32
          replace hbd2 := Lib.hid hbd2
          clear hbd h32 h61
          obtain ⟨h, hh⟩ : ∃ h, (l ++ [x]).headD 0 = h := ⟨_, rfl⟩
          rw [hh] at hsc
          replace hh := Lib.hid hh
          by_cases hr0 : h = r
          · rw [if_pos hr0] at hsc
            have e4 : (h == r) = true := by simp [hr0]
            replace hsc := Lib.hid hsc
            clear hr0
            go_wp2_with (at_builtin; refine wpList_append_src rfl _ _ 24 rfl w.heap.size 3 i0 (.int .i64 0) 8 Tryz.underlying24 hi hz0 hz1 hz2 rfl _ _ _ rfl hown2.out _ _ rfl hone (oneCellI [x]) (by simpa using hmx.1) (by simpa using hmx.2) hbel2.out.size ?_; intro v5 w5 hown5 hgrow5; have hown6 := ownI_of_row (l := l ++ [x]) hown5 (by simp) (by simp); have hbel6 := below_row hbel2.out hgrow5 hbel2.out.size hown2.out (Nat.le_refl _); have hop := own_first hown6 hl1 hh.out; clear hown5 hgrow5; obtain ⟨g, cap, rfl, hcap, hcap1, c0, htl⟩ := hop; replace hbel6 := Lib.hid hbel6; replace htl := Lib.hid htl; clear hown6)
            go_ret2
            exact ⟨_, by rw [← hsc.out]; rfl, by rw [← hsc.out]; exact htl.out, hbel6.out⟩
          · rw [if_neg hr0] at hsc
            have e4 : (h == r) = false := by simp [hr0]
            replace hsc := Lib.hid hsc
            clear hr0
            go_wp2_with (at_builtin; refine wpList_append_src rfl _ _ 24 rfl w.heap.size 3 i0 (.int .i64 0) 8 Tryz.underlying24 hi hz0 hz1 hz2 rfl _ _ _ rfl hown2.out _ _ rfl hone (oneCellI [x]) (by simpa using hmx.1) (by simpa using hmx.2) hbel2.out.size ?_; intro v5 w5 hown5 hgrow5; have hown6 := ownI_of_row (l := l ++ [x]) hown5 (by simp) (by simp); have hbel6 := below_row hbel2.out hgrow5 hbel2.out.size hown2.out (Nat.le_refl _); have hop := own_first hown6 hl1 hh.out; clear hown5 hgrow5; obtain ⟨g, cap, rfl, hcap, hcap1, c0, htl⟩ := hop; replace hbel6 := Lib.hid hbel6; replace htl := Lib.hid htl; clear hown6)
            go_roundg (S.size - (k + 1))
            case measure => omega
            case rel => exact ⟨k + 1, [], 0, by omega, by go_num, rfl, ownI_nil _ _, hbel6.out, hsc.out, hbd2.out, by simp, rfl⟩
        · have e3 : ((c.toNat : Int) == 32) = false := by simp; omega
          rw [Lk.scan_dig h61 h32] at hsc
          have hbd2 := Lk.bdd_dig hbd h61 h32
          have hdb := Lk.digit_bd c
          have hd := digit_any c
          obtain ⟨d, hd'⟩ : ∃ d, Lk.digit c = d := ⟨_, rfl⟩
          rw [hd'] at hsc hbd2 hdb hd
          obtain ⟨hdb1, hdb2⟩ := hdb
          replace hd := Lib.hid hd
          replace hsc := Lib.hid hsc
          replace hbd2 := Lib.hid hbd2
          clear hbd h32 h61 hd'
          go_wp2_with fail
          refine (hd.out _).mono ?_
          rintro e w1 ⟨rfl, rfl⟩
          go_wp2_with fail
          go_roundg (S.size - (k + 1))
          case measure => omega
          case rel => exact ⟨k + 1, l, x * 16 + d, by omega, by go_num, rfl, hown.out, hbel.out, hsc.out, hbd2.out, by omega, rfl⟩
    · obtain rfl : k = S.size := by omega
      have hlt' : decide ((S.size : Int) < (S.size : Int)) = false := by simp
      rw [List.drop_of_length_le (by simp), Lk.scan] at hsc
      subst hsc
      replace hown := Lib.hid hown
      replace hbel := Lib.hid hbel
      clear ho hbd
      go_wp2_with fail
      go_ret2
      exact ⟨_, rfl, ri_nil _, hbel.out⟩
end Go.Proofs.YtiidjkhkcckmkaaGreatDoor

/- Layer 4: the document's Full and Is. -/
namespace Go.Proofs.YtiidjkhkcckmkaaGreatDoor
set_option linter.unusedSimpArgs false
set_option linter.unusedVariables false
open Go.RowKit Go.Lib
theorem tabS_bdd : Lk.bdd tabS.data.toList 0 0 = true := by decide +kernel
def RFullRes (l : List Int) (w : World) (e : Ending) (w' : World) : Prop := ∃ v, e = .returned v ∧ RI w' v l ∧ Below w.heap.size w w'
theorem rtab_any (r : Int) (w : World) : Calls Tryz.prog 105 #[.string tabS, .int .i64 r] w (FoundR (Lk.look Dcp.T r) w) := by
  have h := rfind_any tabS r tabS_size tabS_bdd w
  rw [Lk.scan_eq, tabS_rows] at h
  exact h
set_option maxHeartbeats 1600000 in
theorem rfull_free (r : Int) (w : World) :
    Calls Tryz.prog 66 #[.int .i64 r] w (RFullRes (Dcp.fullI r) w) := by
  obtain ⟨i0, hi, hz0, hz1, hz2⟩ := info_parts info_i
  by_cases h1 : 0xAC00 ≤ r ∧ r ≤ 0xD7A3
  · have hf := Dcp.full_syl h1
    obtain ⟨h1a, h1b⟩ := h1
    rw [hf]
    clear hf
    obtain ⟨s, hs⟩ : ∃ s, r - 44032 = s := ⟨_, rfl⟩
    rw [hs]
    have hs0 : 0 ≤ s ∧ s < 11172 := by omega
    obtain ⟨hs1, hs2⟩ := hs0
    obtain ⟨x, hx⟩ : ∃ x, 4352 + s / 588 = x := ⟨_, rfl⟩
    obtain ⟨y, hy⟩ : ∃ y, 4449 + s % 588 / 28 = y := ⟨_, rfl⟩
    by_cases ht : s % 28 = 0
    · have hsl : Dcp.sylL s = [0x1100 + s / 588, 0x1161 + s % 588 / 28] := by unfold Dcp.sylL; rw [if_pos ht]
      rw [hx, hy] at hsl
      replace hsl := Lib.hid hsl
      go_enter Tryz.func66, Tryz.ntmps66
      go_wp2_with fail
      go_ret
      exact ⟨_, rfl, ri_cast (ri_of_own (ownI_lit w.heap.size w [x, y] _ w.heap.size 2 rfl (Nat.le_refl _) rfl rfl (by unfold maxLen; omega))) hsl.out.symm, below_new _ _⟩
    · have hsl : Dcp.sylL s = [0x1100 + s / 588, 0x1161 + s % 588 / 28] ++ [0x11A7 + s % 28] := by unfold Dcp.sylL; rw [if_neg ht]; rfl
      have ht0 : (s % 28 == 0) = false := by simpa using ht
      have ht1 : (s % 28 != 0) = true := by simpa using ht
      obtain ⟨z, hz⟩ : ∃ z, 4519 + s % 28 = z := ⟨_, rfl⟩
      rw [hx, hy, hz] at hsl
      replace hsl := Lib.hid hsl
      have hown := ownI_lit w.heap.size w [x, y] #[.int .i64 x, .int .i64 y] w.heap.size 2 rfl (Nat.le_refl _) rfl rfl (by unfold maxLen; omega)
      have hone := ri_src (ri_of_own (ownI_lit w.heap.size (w.alloc (.cells #[.int .i64 x, .int .i64 y] 3)) [z] #[.int .i64 z] (w.heap.size + 1) 1 (by simp) (by omega) rfl rfl (by unfold maxLen; omega)))
      have hown2 := Lib.hid (ownI_alloc hown (.cells #[.int .i64 z] 3))
      have hbel := Lib.hid (((below_new w (.cells #[.int .i64 x, .int .i64 y] 3)).alloc (by simp) (.cells #[.int .i64 z] 3)))
      clear ht hown
      go_enter Tryz.func66, Tryz.ntmps66
      go_wp2_with (at_builtin; refine wpList_append_src rfl _ _ 24 rfl w.heap.size 3 i0 (.int .i64 0) 8 Tryz.underlying24 hi hz0 hz1 hz2 rfl _ _ _ rfl hown2.out _ _ rfl hone (oneCellI [z]) (by unfold maxLen; simp) (by simp) hbel.out.size ?_; intro v5 w5 hown5 hgrow5)
      have hown6 := ownI_of_row (l := [x, y] ++ [z]) hown5 (by simp) (by simp)
      have hbel6 := below_row hbel.out hgrow5 hbel.out.size hown2.out (Nat.le_refl _)
      go_ret
      exact ⟨_, rfl, ri_cast (ri_of_own hown6) hsl.out.symm, hbel6⟩
  have f1 : (decide (44032 ≤ r) && decide (r ≤ 55203)) = false := by simp; omega
  by_cases h2 : 0xFF01 ≤ r ∧ r ≤ 0xFF5E
  · have hf := Dcp.full_wide h2
    obtain ⟨h2a, h2b⟩ := h2
    have h44 : 44032 ≤ r := by omega
    have h55 : decide (r ≤ 55203) = false := by simp; omega
    clear h1 f1
    rw [hf]
    clear hf
    go_enter Tryz.func66, Tryz.ntmps66
    go_wp2_with fail
    go_ret
    exact ⟨_, rfl, ri_of_own (ownI_lit w.heap.size _ [r - 65248] _ _ 1 rfl (Nat.le_refl _) rfl rfl (by unfold maxLen; omega)), below_new _ _⟩
  have hl := Lib.hid (rtab_any r)
  have key : ∀ (o : Option (List Int)), Lk.look Dcp.T r = o → Calls Tryz.prog 66 #[.int .i64 r] w (RFullRes (o.getD [r]) w) := by
    intro o ho
    rw [ho] at hl
    clear ho
    by_cases ha : 44032 ≤ r
    · have hb : decide (r ≤ 55203) = false := by simp; omega
      by_cases hc : 65281 ≤ r
      · have hd : decide (r ≤ 65374) = false := by simp; omega
        clear h1 h2 f1
        cases o with
        | none =>
          go_enter Tryz.func66, Tryz.ntmps66
          go_wp2_with fail
          refine (table_any _).mono ?_
          rintro e w1 ⟨rfl, rfl⟩
          go_wp2_with fail
          refine (hl.out _).mono ?_
          rintro e w1 ⟨v, rfl, hv, hb1⟩
          replace hv := Lib.hid hv
          replace hb1 := Lib.hid hb1
          go_wp2_with fail
          go_ret
          exact ⟨_, rfl, ri_of_own (ownI_lit w1.heap.size _ [r] _ _ 1 rfl (Nat.le_refl _) rfl rfl (by unfold maxLen; omega)), hb1.out.alloc hb1.out.size _⟩
        | some p =>
          go_enter Tryz.func66, Tryz.ntmps66
          go_wp2_with fail
          refine (table_any _).mono ?_
          rintro e w1 ⟨rfl, rfl⟩
          go_wp2_with fail
          refine (hl.out _).mono ?_
          rintro e w1 ⟨v, rfl, hv, hb1⟩
          replace hv := Lib.hid hv
          replace hb1 := Lib.hid hb1
          go_wp2_with fail
          go_ret
          exact ⟨_, rfl, hv.out, hb1.out⟩
      · have hd : decide (65281 ≤ r) = false := by simp; omega
        clear h1 h2 f1
        cases o with
        | none =>
          go_enter Tryz.func66, Tryz.ntmps66
          go_wp2_with fail
          refine (table_any _).mono ?_
          rintro e w1 ⟨rfl, rfl⟩
          go_wp2_with fail
          refine (hl.out _).mono ?_
          rintro e w1 ⟨v, rfl, hv, hb1⟩
          replace hv := Lib.hid hv
          replace hb1 := Lib.hid hb1
          go_wp2_with fail
          go_ret
          exact ⟨_, rfl, ri_of_own (ownI_lit w1.heap.size _ [r] _ _ 1 rfl (Nat.le_refl _) rfl rfl (by unfold maxLen; omega)), hb1.out.alloc hb1.out.size _⟩
        | some p =>
          go_enter Tryz.func66, Tryz.ntmps66
          go_wp2_with fail
          refine (table_any _).mono ?_
          rintro e w1 ⟨rfl, rfl⟩
          go_wp2_with fail
          refine (hl.out _).mono ?_
          rintro e w1 ⟨v, rfl, hv, hb1⟩
          replace hv := Lib.hid hv
          replace hb1 := Lib.hid hb1
          go_wp2_with fail
          go_ret
          exact ⟨_, rfl, hv.out, hb1.out⟩
    · have hb : decide (44032 ≤ r) = false := by simp; omega
      have hd : decide (65281 ≤ r) = false := by simp; omega
      clear h1 h2 f1
      cases o with
      | none =>
        go_enter Tryz.func66, Tryz.ntmps66
        go_wp2_with fail
        refine (table_any _).mono ?_
        rintro e w1 ⟨rfl, rfl⟩
        go_wp2_with fail
        refine (hl.out _).mono ?_
        rintro e w1 ⟨v, rfl, hv, hb1⟩
        replace hv := Lib.hid hv
        replace hb1 := Lib.hid hb1
        go_wp2_with fail
        go_ret
        exact ⟨_, rfl, ri_of_own (ownI_lit w1.heap.size _ [r] _ _ 1 rfl (Nat.le_refl _) rfl rfl (by unfold maxLen; omega)), hb1.out.alloc hb1.out.size _⟩
      | some p =>
        go_enter Tryz.func66, Tryz.ntmps66
        go_wp2_with fail
        refine (table_any _).mono ?_
        rintro e w1 ⟨rfl, rfl⟩
        go_wp2_with fail
        refine (hl.out _).mono ?_
        rintro e w1 ⟨v, rfl, hv, hb1⟩
        replace hv := Lib.hid hv
        replace hb1 := Lib.hid hb1
        go_wp2_with fail
        go_ret
        exact ⟨_, rfl, hv.out, hb1.out⟩
  have h := key _ rfl
  have hf : Dcp.fullI r = (Lk.look Dcp.T r).getD [r] := by unfold Dcp.fullI; rw [if_neg h1, if_neg h2]
  rw [hf]
  exact h
end Go.Proofs.YtiidjkhkcckmkaaGreatDoor

