/- Texts that stand together. -/
import Derived.Test.YtnlnkjaapdefiaaGreatDoorBasP
import Derived.Test.YtnlnkjaapdefiaaGreatDoorMthP
import Derived.Test.YtnlnkjaapdefiaaGreatDoorPaRP
import Derived.Deep.LoopGhost
import Derived.Deep.DeepCutAuto
import Derived.KernelRfl
import Derived.Test.YtnlnkjaapdefiaaGreatDoorCnRP
import Derived.Test.YtnlnkjaapdefiaaGreatDoorMatP
/- Layer 4: the document's own table and answers. -/
namespace Go.Proofs.YtnlnkjaapdefiaaGreatDoor
set_option linter.unusedSimpArgs false
set_option linter.unusedVariables false
open Go.RowKit Go.Lib
noncomputable def tabCode (S : ByteArray) : Code :=
  ((Go.Code.region 0 #[{ dst := some 0, op := Go.Op.assign (Go.Operand.const (Go.Value.string { data := #[] })), type := 9, pos := "ref.go:5", after := #[], guard := none }] false).seq ((Go.Code.region 1 #[{ dst := some 0, op := Go.Op.assign (Go.Operand.const (Go.Value.string S)), type := 9, pos := "ref.go:6", after := #[], guard := none }] false).seq Go.Code.ret))
/-- the document's own text -/
noncomputable def tabS : ByteArray :=
  match Tryz.f167.body with
  | some (.seq _ (.seq (.region _ ops _) _)) => (match ops[0]? with
    | some o => (match o.op with | .assign (.const (.string s)) => s | _ => ⟨#[]⟩)
    | none => ⟨#[]⟩)
  | _ => ⟨#[]⟩
theorem tabCode_is : Tryz.f167.body = some (tabCode tabS) := by kernel_rfl
theorem tabS_rows : Lk.rows tabS.data.toList [] 0 = Dcp.T := by decide +kernel
theorem tabS_size : tabS.size ≤ 100000 := by decide +kernel
theorem table_any (w : World) :
    Calls Tryz.prog 167 #[] w fun e w' => e = .returned (.string tabS) ∧ w = w' := by
  have hcode := tabCode_is
  obtain ⟨S, hS⟩ : ∃ S, tabS = S := ⟨_, rfl⟩
  rw [hS] at hcode ⊢
  replace hS := Lib.hid hS
  refine calls_of_wp Tryz.func167 hcode ?_
  clear hcode
  unfold tabCode
  simp only [Tryz.ntmps167, List.size_toArray, List.length_cons, List.length_nil, Nat.reduceAdd, Nat.reduceSub, Array.replicate_succ,
     Array.replicate_zero, List.push_toArray, List.append_toArray, List.nil_append, List.cons_append]
  go_wp2_with fail
  go_ret
  exact ⟨rfl, rfl⟩
end Go.Proofs.YtnlnkjaapdefiaaGreatDoor

/- The document's Find (layer 4's), of any layer that has it. -/
namespace Go.Proofs.YtnlnkjaapdefiaaGreatDoor
set_option linter.unusedSimpArgs false
set_option linter.unusedVariables false
open Go.RowKit Go.Lib
/-- what the document's Find comes to -/
def FoundR (o : Option (List Int)) (w : World) (e : Ending) (w' : World) : Prop :=
  ∃ v, e = .returned (.tuple #[v, .bool o.isSome]) ∧ RI w' v (o.getD []) ∧ Below w.heap.size w w'
theorem drop_cons {L : List UInt8} {k : Nat} (h : k < L.length) : L.drop k = L[k] :: L.drop (k + 1) := by rw [List.drop_eq_getElem_cons h]
theorem headD_app {l : List Int} {x : Int} (h : 0 < (l ++ [x]).length) : (l ++ [x])[0] = (l ++ [x]).headD 0 := by
  cases l with
  | nil => rfl
  | cons a t => rfl
theorem tail_drop (l : List Int) : l.tail = l.drop 1 := by cases l <;> rfl
/-- the first of a row that was read, and what stands behind it -/
theorem own_first {B : Nat} {v : Value} {l : List Int} {x h : Int} {w : World} (hown : OwnI B v (l ++ [x]) w) (hl : 1 ≤ l.length) (hh : (l ++ [x]).headD 0 = h) :
    ∃ g cap, v = .slice (some ⟨g, 0, none⟩) (l.length + 1) cap ∧ l.length + 1 ≤ cap ∧ 1 < cap ∧ w.cell? ⟨g, 0, none⟩ = some (.int .i64 h) ∧ RI w (.slice (some ⟨g, 1, none⟩) l.length (cap - 1)) (l ++ [x]).tail := by
  obtain ⟨g, cap, rfl, hB, hlt, hcell⟩ := ownI_open hown (by simp)
  have hri := ri_of_own hown
  have hcap : (l ++ [x]).length ≤ cap := by
    rcases hri with ⟨h, _⟩ | ⟨a, c, he, hc, _⟩
    · simp at h
    · simp at he
      have := he.2
      omega
  have hlen : (l ++ [x]).length = l.length + 1 := by simp
  obtain ⟨b, off, he, hdrop⟩ := ri_drop hri 1 (by omega)
  simp at he
  obtain ⟨rfl, rfl⟩ := he
  rw [← tail_drop, hlen] at hdrop
  have h0 := hcell 0 (by simp)
  rw [headD_app (by simp), hh] at h0
  rw [hlen] at hcap ⊢
  exact ⟨g, cap, rfl, hcap, by omega, h0, by simpa using hdrop⟩
set_option maxHeartbeats 1600000 in
theorem rfind_any (S : ByteArray) (r : Int) (hS : S.size ≤ 100000) (hb : Lk.bdd S.data.toList 0 0 = true) (w : World) :
    Calls Tryz.prog 140 #[.string S, .int .i64 r] w (FoundR (Lk.scan S.data.toList [] 0 r) w) := by
  obtain ⟨i0, hi, hz0, hz1, hz2⟩ := info_parts info_i
  obtain ⟨o, ho⟩ : ∃ o, Lk.scan S.data.toList [] 0 r = o := ⟨_, rfl⟩
  rw [ho]
  replace hb := Lib.hid hb
  replace ho := Lib.hid ho
  go_enter Tryz.func140, Tryz.ntmps140
  go_wp2_with fail
  go_loopg [6, 7, 8] S.size (fun g lv v i wr => ∃ (k : Nat) (l : List Int) (x : Int), k ≤ S.size ∧ i = .int .i64 k ∧ v = .int .i64 x ∧ OwnI w.heap.size lv l wr ∧ Below w.heap.size w wr ∧ Lk.scan (S.data.toList.drop k) l x r = o ∧ Lk.bdd (S.data.toList.drop k) x l.length = true ∧ l.length ≤ k ∧ g = S.size - k)
  case atStart => exact ⟨0, [], 0, Nat.zero_le _, rfl, rfl, ownI_nil _ _, Below.refl _ _, ho.out, hb.out, Nat.le_refl _, rfl⟩
  case round =>
    obtain ⟨k, l, x, hk, rfl, rfl, hown, hbel, hsc, hbd, hlk, rfl⟩ := hrel
    by_cases hlt : k < S.size
    · have hlt' : (k : Int) < (S.size : Int) := by omega
      have hdr := drop_cons (L := S.data.toList) (k := k) (by simpa using hlt)
      obtain ⟨c, hc⟩ : ∃ c, S[k] = c := ⟨_, rfl⟩
      rw [show S.data.toList[k]'(by simpa using hlt) = c from hc] at hdr
      rw [hdr] at hsc hbd
      have hv := Lk.bdd_v hbd
      obtain ⟨hv1, hv2⟩ := hv
      have hmx : l.length + [x].length ≤ maxLen ∧ (l.length + [x].length) * 8 ≤ 140737488355328 := by unfold maxLen; simp; omega
      have hown2 := ownI_alloc hown (.cells #[.int .i64 x] 3)
      have hone := ri_src (ri_of_own (ownI_lit w.heap.size wr [x] #[.int .i64 x] wr.heap.size 1 rfl hbel.size rfl rfl (by unfold maxLen; omega)))
      have hbel2 := hbel.alloc hbel.size (.cells #[.int .i64 x] 3)
      replace hown2 := Lib.hid hown2
      replace hbel2 := Lib.hid hbel2
      replace hown := Lib.hid hown
      replace hbel := Lib.hid hbel
      clear hdr
      by_cases h61 : c.toNat = 61 ∨ c.toNat = 44
      · rw [Lk.scan_sep h61] at hsc
        have hbd2 := Lib.hid (Lk.bdd_sep hbd h61)
        replace hsc := Lib.hid hsc
        clear hbd
        rcases h61 with h61 | h61
        · have e1 : ((c.toNat : Int) == 61) = true := by rw [h61]; rfl
          clear h61
          go_wp2_with (at_builtin; refine wpList_append_src rfl _ _ 25 rfl w.heap.size 3 i0 (.int .i64 0) 8 Tryz.underlying25 hi hz0 hz1 hz2 rfl _ _ _ rfl hown2.out _ _ rfl hone (oneCellI [x]) (by simpa using hmx.1) (by simpa using hmx.2) hbel2.out.size ?_; intro v5 w5 hown5 hgrow5)
          have hown6 := ownI_of_row (l := l ++ [x]) hown5 (by simp) (by simp)
          have hbel6 := below_row hbel2.out hgrow5 hbel2.out.size hown2.out (Nat.le_refl _)
          go_roundg (S.size - (k + 1))
          case measure => omega
          case rel => exact ⟨k + 1, l ++ [x], 0, by omega, by go_num, rfl, hown6, hbel6, hsc.out, by simpa using hbd2.out, by simp; omega, rfl⟩
        · have e1 : ((c.toNat : Int) == 61) = false := by rw [h61]; rfl
          have e2 : ((c.toNat : Int) == 44) = true := by rw [h61]; rfl
          clear h61
          go_wp2_with (at_builtin; refine wpList_append_src rfl _ _ 25 rfl w.heap.size 3 i0 (.int .i64 0) 8 Tryz.underlying25 hi hz0 hz1 hz2 rfl _ _ _ rfl hown2.out _ _ rfl hone (oneCellI [x]) (by simpa using hmx.1) (by simpa using hmx.2) hbel2.out.size ?_; intro v5 w5 hown5 hgrow5)
          have hown6 := ownI_of_row (l := l ++ [x]) hown5 (by simp) (by simp)
          have hbel6 := below_row hbel2.out hgrow5 hbel2.out.size hown2.out (Nat.le_refl _)
          go_roundg (S.size - (k + 1))
          case measure => omega
          case rel => exact ⟨k + 1, l ++ [x], 0, by omega, by go_num, rfl, hown6, hbel6, hsc.out, by simpa using hbd2.out, by simp; omega, rfl⟩
      · have e1 : ((c.toNat : Int) == 61) = false := by simp; omega
        have e2 : ((c.toNat : Int) == 44) = false := by simp; omega
        by_cases h32 : c.toNat = 32
        · have e3 : ((c.toNat : Int) == 32) = true := by rw [h32]; rfl
          rw [Lk.scan_sp h32] at hsc
          obtain ⟨hl1, hbd2⟩ := Lk.bdd_sp hbd h32
          replace hbd2 := Lib.hid hbd2
          clear hbd h32 h61
          obtain ⟨h, hh⟩ : ∃ h, (l ++ [x]).headD 0 = h := ⟨_, rfl⟩
          rw [hh] at hsc
          replace hh := Lib.hid hh
          by_cases hr0 : h = r
          · rw [if_pos hr0] at hsc
            have e4 : (h == r) = true := by simp [hr0]
            replace hsc := Lib.hid hsc
            clear hr0
            go_wp2_with (at_builtin; refine wpList_append_src rfl _ _ 25 rfl w.heap.size 3 i0 (.int .i64 0) 8 Tryz.underlying25 hi hz0 hz1 hz2 rfl _ _ _ rfl hown2.out _ _ rfl hone (oneCellI [x]) (by simpa using hmx.1) (by simpa using hmx.2) hbel2.out.size ?_; intro v5 w5 hown5 hgrow5; have hown6 := ownI_of_row (l := l ++ [x]) hown5 (by simp) (by simp); have hbel6 := below_row hbel2.out hgrow5 hbel2.out.size hown2.out (Nat.le_refl _); have hop := own_first hown6 hl1 hh.out; clear hown5 hgrow5; obtain ⟨g, cap, rfl, hcap, hcap1, c0, htl⟩ := hop; replace hbel6 := Lib.hid hbel6; replace htl := Lib.hid htl; clear hown6)
            go_ret2
            exact ⟨_, by rw [← hsc.out]; rfl, by rw [← hsc.out]; exact htl.out, hbel6.out⟩
          · rw [if_neg hr0] at hsc
            have e4 : (h == r) = false := by simp [hr0]
            replace hsc := Lib.hid hsc
            clear hr0
            go_wp2_with (at_builtin; refine wpList_append_src rfl _ _ 25 rfl w.heap.size 3 i0 (.int .i64 0) 8 Tryz.underlying25 hi hz0 hz1 hz2 rfl _ _ _ rfl hown2.out _ _ rfl hone (oneCellI [x]) (by simpa using hmx.1) (by simpa using hmx.2) hbel2.out.size ?_; intro v5 w5 hown5 hgrow5; have hown6 := ownI_of_row (l := l ++ [x]) hown5 (by simp) (by simp); have hbel6 := below_row hbel2.out hgrow5 hbel2.out.size hown2.out (Nat.le_refl _); have hop := own_first hown6 hl1 hh.out; clear hown5 hgrow5; obtain ⟨g, cap, rfl, hcap, hcap1, c0, htl⟩ := hop; replace hbel6 := Lib.hid hbel6; replace htl := Lib.hid htl; clear hown6)
            go_roundg (S.size - (k + 1))
            case measure => omega
            case rel => exact ⟨k + 1, [], 0, by omega, by go_num, rfl, ownI_nil _ _, hbel6.out, hsc.out, hbd2.out, by simp, rfl⟩
        · have e3 : ((c.toNat : Int) == 32) = false := by simp; omega
          rw [Lk.scan_dig h61 h32] at hsc
          have hbd2 := Lk.bdd_dig hbd h61 h32
          have hdb := Lk.digit_bd c
          have hd := digit_any c
          obtain ⟨d, hd'⟩ : ∃ d, Lk.digit c = d := ⟨_, rfl⟩
          rw [hd'] at hsc hbd2 hdb hd
          obtain ⟨hdb1, hdb2⟩ := hdb
          replace hd := Lib.hid hd
          replace hsc := Lib.hid hsc
          replace hbd2 := Lib.hid hbd2
          clear hbd h32 h61 hd'
          go_wp2_with fail
          refine (hd.out _).mono ?_
          rintro e w1 ⟨rfl, rfl⟩
          go_wp2_with fail
          go_roundg (S.size - (k + 1))
          case measure => omega
          case rel => exact ⟨k + 1, l, x * 16 + d, by omega, by go_num, rfl, hown.out, hbel.out, hsc.out, hbd2.out, by omega, rfl⟩
    · obtain rfl : k = S.size := by omega
      have hlt' : decide ((S.size : Int) < (S.size : Int)) = false := by simp
      rw [List.drop_of_length_le (by simp), Lk.scan] at hsc
      subst hsc
      replace hown := Lib.hid hown
      replace hbel := Lib.hid hbel
      clear ho hbd
      go_wp2_with fail
      go_ret2
      exact ⟨_, rfl, ri_nil _, hbel.out⟩
end Go.Proofs.YtnlnkjaapdefiaaGreatDoor

/- Layer 4: the document's Full and Is. -/
namespace Go.Proofs.YtnlnkjaapdefiaaGreatDoor
set_option linter.unusedSimpArgs false
set_option linter.unusedVariables false
open Go.RowKit Go.Lib
theorem tabS_bdd : Lk.bdd tabS.data.toList 0 0 = true := by decide +kernel
/-- what the document's Full comes to -/
def RFullRes (l : List Int) (w : World) (e : Ending) (w' : World) : Prop := ∃ v, e = .returned v ∧ RI w' v l ∧ Below w.heap.size w w'
theorem rtab_any (r : Int) (w : World) : Calls Tryz.prog 140 #[.string tabS, .int .i64 r] w (FoundR (Lk.look Dcp.T r) w) := by
  have h := rfind_any tabS r tabS_size tabS_bdd w
  rw [Lk.scan_eq, tabS_rows] at h
  exact h
set_option maxHeartbeats 1600000 in
theorem rfull_free (r : Int) (w : World) :
    Calls Tryz.prog 137 #[.int .i64 r] w (RFullRes (Dcp.fullI r) w) := by
  obtain ⟨i0, hi, hz0, hz1, hz2⟩ := info_parts info_i
  by_cases h1 : 0xAC00 ≤ r ∧ r ≤ 0xD7A3
  · have hf := Dcp.full_syl h1
    obtain ⟨h1a, h1b⟩ := h1
    rw [hf]
    clear hf
    obtain ⟨s, hs⟩ : ∃ s, r - 44032 = s := ⟨_, rfl⟩
    rw [hs]
    have hs0 : 0 ≤ s ∧ s < 11172 := by omega
    obtain ⟨hs1, hs2⟩ := hs0
    obtain ⟨x, hx⟩ : ∃ x, 4352 + s / 588 = x := ⟨_, rfl⟩
    obtain ⟨y, hy⟩ : ∃ y, 4449 + s % 588 / 28 = y := ⟨_, rfl⟩
    by_cases ht : s % 28 = 0
    · have hsl : Dcp.sylL s = [0x1100 + s / 588, 0x1161 + s % 588 / 28] := by unfold Dcp.sylL; rw [if_pos ht]
      rw [hx, hy] at hsl
      replace hsl := Lib.hid hsl
      go_enter Tryz.func137, Tryz.ntmps137
      go_wp2_with fail
      go_ret
      exact ⟨_, rfl, ri_cast (ri_of_own (ownI_lit w.heap.size w [x, y] _ w.heap.size 2 rfl (Nat.le_refl _) rfl rfl (by unfold maxLen; omega))) hsl.out.symm, below_new _ _⟩
    · have hsl : Dcp.sylL s = [0x1100 + s / 588, 0x1161 + s % 588 / 28] ++ [0x11A7 + s % 28] := by unfold Dcp.sylL; rw [if_neg ht]; rfl
      have ht0 : (s % 28 == 0) = false := by simpa using ht
      have ht1 : (s % 28 != 0) = true := by simpa using ht
      obtain ⟨z, hz⟩ : ∃ z, 4519 + s % 28 = z := ⟨_, rfl⟩
      rw [hx, hy, hz] at hsl
      replace hsl := Lib.hid hsl
      have hown := ownI_lit w.heap.size w [x, y] #[.int .i64 x, .int .i64 y] w.heap.size 2 rfl (Nat.le_refl _) rfl rfl (by unfold maxLen; omega)
      have hone := ri_src (ri_of_own (ownI_lit w.heap.size (w.alloc (.cells #[.int .i64 x, .int .i64 y] 3)) [z] #[.int .i64 z] (w.heap.size + 1) 1 (by simp) (by omega) rfl rfl (by unfold maxLen; omega)))
      have hown2 := Lib.hid (ownI_alloc hown (.cells #[.int .i64 z] 3))
      have hbel := Lib.hid (((below_new w (.cells #[.int .i64 x, .int .i64 y] 3)).alloc (by simp) (.cells #[.int .i64 z] 3)))
      clear ht hown
      go_enter Tryz.func137, Tryz.ntmps137
      go_wp2_with (at_builtin; refine wpList_append_src rfl _ _ 25 rfl w.heap.size 3 i0 (.int .i64 0) 8 Tryz.underlying25 hi hz0 hz1 hz2 rfl _ _ _ rfl hown2.out _ _ rfl hone (oneCellI [z]) (by unfold maxLen; simp) (by simp) hbel.out.size ?_; intro v5 w5 hown5 hgrow5)
      have hown6 := ownI_of_row (l := [x, y] ++ [z]) hown5 (by simp) (by simp)
      have hbel6 := below_row hbel.out hgrow5 hbel.out.size hown2.out (Nat.le_refl _)
      go_ret
      exact ⟨_, rfl, ri_cast (ri_of_own hown6) hsl.out.symm, hbel6⟩
  have f1 : (decide (44032 ≤ r) && decide (r ≤ 55203)) = false := by simp; omega
  by_cases h2 : 0xFF01 ≤ r ∧ r ≤ 0xFF5E
  · have hf := Dcp.full_wide h2
    obtain ⟨h2a, h2b⟩ := h2
    have h44 : 44032 ≤ r := by omega
    have h55 : decide (r ≤ 55203) = false := by simp; omega
    clear h1 f1
    rw [hf]
    clear hf
    go_enter Tryz.func137, Tryz.ntmps137
    go_wp2_with fail
    go_ret
    exact ⟨_, rfl, ri_of_own (ownI_lit w.heap.size _ [r - 65248] _ _ 1 rfl (Nat.le_refl _) rfl rfl (by unfold maxLen; omega)), below_new _ _⟩
  have hl := Lib.hid (rtab_any r)
  have key : ∀ (o : Option (List Int)), Lk.look Dcp.T r = o → Calls Tryz.prog 137 #[.int .i64 r] w (RFullRes (o.getD [r]) w) := by
    intro o ho
    rw [ho] at hl
    clear ho
    by_cases ha : 44032 ≤ r
    · have hb : decide (r ≤ 55203) = false := by simp; omega
      by_cases hc : 65281 ≤ r
      · have hd : decide (r ≤ 65374) = false := by simp; omega
        clear h1 h2 f1
        cases o with
        | none =>
          go_enter Tryz.func137, Tryz.ntmps137
          go_wp2_with fail
          refine (table_any _).mono ?_
          rintro e w1 ⟨rfl, rfl⟩
          go_wp2_with fail
          refine (hl.out _).mono ?_
          rintro e w1 ⟨v, rfl, hv, hb1⟩
          replace hv := Lib.hid hv
          replace hb1 := Lib.hid hb1
          go_wp2_with fail
          go_ret
          exact ⟨_, rfl, ri_of_own (ownI_lit w1.heap.size _ [r] _ _ 1 rfl (Nat.le_refl _) rfl rfl (by unfold maxLen; omega)), hb1.out.alloc hb1.out.size _⟩
        | some p =>
          go_enter Tryz.func137, Tryz.ntmps137
          go_wp2_with fail
          refine (table_any _).mono ?_
          rintro e w1 ⟨rfl, rfl⟩
          go_wp2_with fail
          refine (hl.out _).mono ?_
          rintro e w1 ⟨v, rfl, hv, hb1⟩
          replace hv := Lib.hid hv
          replace hb1 := Lib.hid hb1
          go_wp2_with fail
          go_ret
          exact ⟨_, rfl, hv.out, hb1.out⟩
      · have hd : decide (65281 ≤ r) = false := by simp; omega
        clear h1 h2 f1
        cases o with
        | none =>
          go_enter Tryz.func137, Tryz.ntmps137
          go_wp2_with fail
          refine (table_any _).mono ?_
          rintro e w1 ⟨rfl, rfl⟩
          go_wp2_with fail
          refine (hl.out _).mono ?_
          rintro e w1 ⟨v, rfl, hv, hb1⟩
          replace hv := Lib.hid hv
          replace hb1 := Lib.hid hb1
          go_wp2_with fail
          go_ret
          exact ⟨_, rfl, ri_of_own (ownI_lit w1.heap.size _ [r] _ _ 1 rfl (Nat.le_refl _) rfl rfl (by unfold maxLen; omega)), hb1.out.alloc hb1.out.size _⟩
        | some p =>
          go_enter Tryz.func137, Tryz.ntmps137
          go_wp2_with fail
          refine (table_any _).mono ?_
          rintro e w1 ⟨rfl, rfl⟩
          go_wp2_with fail
          refine (hl.out _).mono ?_
          rintro e w1 ⟨v, rfl, hv, hb1⟩
          replace hv := Lib.hid hv
          replace hb1 := Lib.hid hb1
          go_wp2_with fail
          go_ret
          exact ⟨_, rfl, hv.out, hb1.out⟩
    · have hb : decide (44032 ≤ r) = false := by simp; omega
      have hd : decide (65281 ≤ r) = false := by simp; omega
      clear h1 h2 f1
      cases o with
      | none =>
        go_enter Tryz.func137, Tryz.ntmps137
        go_wp2_with fail
        refine (table_any _).mono ?_
        rintro e w1 ⟨rfl, rfl⟩
        go_wp2_with fail
        refine (hl.out _).mono ?_
        rintro e w1 ⟨v, rfl, hv, hb1⟩
        replace hv := Lib.hid hv
        replace hb1 := Lib.hid hb1
        go_wp2_with fail
        go_ret
        exact ⟨_, rfl, ri_of_own (ownI_lit w1.heap.size _ [r] _ _ 1 rfl (Nat.le_refl _) rfl rfl (by unfold maxLen; omega)), hb1.out.alloc hb1.out.size _⟩
      | some p =>
        go_enter Tryz.func137, Tryz.ntmps137
        go_wp2_with fail
        refine (table_any _).mono ?_
        rintro e w1 ⟨rfl, rfl⟩
        go_wp2_with fail
        refine (hl.out _).mono ?_
        rintro e w1 ⟨v, rfl, hv, hb1⟩
        replace hv := Lib.hid hv
        replace hb1 := Lib.hid hb1
        go_wp2_with fail
        go_ret
        exact ⟨_, rfl, hv.out, hb1.out⟩
  have h := key _ rfl
  have hf : Dcp.fullI r = (Lk.look Dcp.T r).getD [r] := by unfold Dcp.fullI; rw [if_neg h1, if_neg h2]
  rw [hf]
  exact h
end Go.Proofs.YtnlnkjaapdefiaaGreatDoor

/- Layer 8: the document's Made, Safe, Nfkd, Nfkc, Is. -/
namespace Go.Proofs.YtnlnkjaapdefiaaGreatDoor
set_option linter.unusedSimpArgs false
set_option linter.unusedVariables false
open Go.RowKit Go.Lib
theorem made_snoc (l : List Int) (x : Int) : Nfk.madeI (l ++ [x]) = Nfk.madeI l ++ Dcp.fullI x := by
  rw [Nfk.made_app]
  simp [Nfk.madeI]
theorem made_lenR (l : List Int) : (Nfk.madeI l).length ≤ 4 * l.length := by
  induction l with
  | nil => simp [Nfk.madeI]
  | cons x t ih =>
    have e : Nfk.madeI (x :: t) = Dcp.fullI x ++ Nfk.madeI t := rfl
    have := (Dcp.full_len x).2
    rw [e, List.length_append, List.length_cons]
    omega
set_option maxHeartbeats 1600000 in
set_option maxRecDepth 100000 in
theorem rmade_any (v : Value) (l : List Int) (w : World) (hl : l.length ≤ 200000) (hv : RI w v l) : Calls Tryz.prog 95 #[v] w (Makes (Nfk.madeI l) w) := by
  obtain ⟨i0, hi, hz0, hz1, hz2⟩ := info_parts info_i
  obtain ⟨p, cap, rfl⟩ := ri_form hv
  replace hv := Lib.hid hv
  go_enter Tryz.func95, Tryz.ntmps95
  go_wp2_with fail
  go_loopg [3, 4] l.length (fun g vo vi wr => ∃ k : Nat, k ≤ l.length ∧ vi = .int .i64 k ∧ g = l.length - k ∧ OwnI w.heap.size vo (Nfk.madeI (l.take k)) wr ∧ Below w.heap.size w wr)
  case atStart => exact ⟨0, Nat.zero_le _, rfl, rfl, ownI_nil _ _, Below.refl _ _⟩
  case round =>
    obtain ⟨k, hk, rfl, rfl, hown, hbel⟩ := hrel
    by_cases hlt : k < l.length
    · have hlt' : (k : Int) < (l.length : Int) := by omega
      obtain ⟨b, off, rfl, hb, hcell⟩ := ri_at (ri_below hv.out hbel) (by omega)
      have hc := hcell k hlt
      obtain ⟨x, hx⟩ : ∃ x, l[k] = x := ⟨_, rfl⟩
      have hsn : l.take (k + 1) = l.take k ++ [x] := by rw [List.take_succ_eq_append_getElem hlt, hx]
      rw [hx] at hc
      have hlen := made_lenR (l.take k)
      have hlx := (Dcp.full_len x).2
      have hall : Nfk.madeI (l.take k ++ [x]) = Nfk.madeI (l.take k) ++ Dcp.fullI x := made_snoc _ _
      rw [← hsn] at hall
      obtain ⟨m, hm⟩ : ∃ m, Nfk.madeI (l.take k) = m := ⟨_, rfl⟩
      obtain ⟨f, hf⟩ : ∃ f, Dcp.fullI x = f := ⟨_, rfl⟩
      have hfull := rfull_free x
      rw [hm] at hown hall hlen
      rw [hf] at hall hlx hfull
      have hmk : m.length ≤ 4 * l.length := by rw [List.length_take] at hlen; omega
      replace hall := Lib.hid hall
      replace hown := Lib.hid hown
      replace hbel := Lib.hid hbel
      replace hfull := Lib.hid hfull
      clear hcell hsn hx hm hf hlen
      go_wp2_with fail
      refine (hfull.out _).mono ?_
      rintro e w1 ⟨vf, rfl, hvf, hb1⟩
      have hown1 := Lib.hid (ownI_below hown.out hb1)
      have hbel1 := Lib.hid (below_on hbel.out hb1)
      have hsrc := Lib.hid (ri_src hvf)
      clear hvf hb1
      go_wp2_with (at_builtin; refine wpList_append_src rfl _ _ 25 rfl w.heap.size 3 i0 (.int .i64 0) 8 Tryz.underlying25 hi hz0 hz1 hz2 rfl _ _ _ rfl hown1.out _ _ rfl hsrc.out (oneCellI _) (by simp only [List.length_map, List.length_append, List.length_take, List.length_drop, List.length_cons, List.length_nil, List.length_singleton]; unfold maxLen; omega) (by simp only [List.length_map, List.length_append, List.length_take, List.length_drop, List.length_cons, List.length_nil, List.length_singleton]; omega) hbel1.out.size ?_; intro v5 w5 ho5 hg5; have o5 := Lib.hid (ownI_of_row (l := m ++ f) ho5 (by (try simp); try omega) (by (try simp); try omega)); have b5 := Lib.hid (below_row hbel1.out hg5 hbel1.out.size hown1.out (Nat.le_refl _)); clear ho5 hg5)
      go_roundg (l.length - (k + 1))
      case measure => omega
      case rel => exact ⟨k + 1, by omega, by go_num, rfl, by rw [hall.out]; exact o5.out, b5.out⟩
    · obtain rfl : k = l.length := by omega
      have hlt' : decide ((l.length : Int) < (l.length : Int)) = false := by simp
      rw [List.take_length] at hown
      replace hown := Lib.hid hown
      replace hbel := Lib.hid hbel
      go_wp2_with fail
      go_ret
      exact ⟨_, rfl, hown.out, hbel.out⟩
set_option maxHeartbeats 3200000 in
set_option maxRecDepth 100000 in
theorem rsafe_any (v : Value) (l : List Int) (w : World) (hl : l.length ≤ 1000000) (hv : RI w v l) : Calls Tryz.prog 94 #[v] w (Makes (Nfk.safeI l 0) w) := by
  obtain ⟨i0, hi, hz0, hz1, hz2⟩ := info_parts info_i
  obtain ⟨p, cap, rfl⟩ := ri_form hv
  replace hv := Lib.hid hv
  obtain ⟨S, hS⟩ : ∃ S, Nfk.safeI l 0 = S := ⟨_, rfl⟩
  rw [hS]
  replace hS := Lib.hid hS
  go_enter Tryz.func94, Tryz.ntmps94
  go_wp2_with fail
  go_loopg [3, 4, 5] l.length (fun g vo vn vi wr => ∃ (k n : Nat) (m : List Int), k ≤ l.length ∧ vi = .int .i64 k ∧ vn = .int .i64 n ∧ n ≤ 30 ∧ g = l.length - k ∧ OwnI w.heap.size vo m wr ∧ m.length ≤ 2 * k ∧ Hid (m ++ Nfk.safeI (l.drop k) n = S) ∧ Below w.heap.size w wr)
  case atStart => exact ⟨0, 0, [], Nat.zero_le _, rfl, rfl, by omega, rfl, ownI_nil _ _, by simp, Lib.hid (by rw [List.drop_zero, List.nil_append]; exact hS.out), Below.refl _ _⟩
  case round =>
    obtain ⟨k, n, m, hk, rfl, rfl, hn30, rfl, hown, hmk, hsf, hbel⟩ := hrel
    by_cases hlt : k < l.length
    · have hlt' : (k : Int) < (l.length : Int) := by omega
      obtain ⟨b, off, rfl, hb, hcell⟩ := ri_at hv.out (by omega)
      have hc0 := hcell k hlt
      obtain ⟨x, hx⟩ : ∃ x, l[k] = x := ⟨_, rfl⟩
      have hdr : l.drop k = x :: l.drop (k + 1) := by rw [List.drop_eq_getElem_cons hlt, hx]
      rw [hx] at hc0
      replace hc0 := Lib.hid hc0
      have hc : wr.cell? ⟨b, off + k, none⟩ = some (.int .i64 x) := (hbel.cell hb).trans hc0.out
      have hs := hsf.out
      rw [hdr, Nfk.safeI] at hs
      have hmx := rmark_any x
      clear hcell hx hdr hsf
      cases hmb : Prp.mrkB x with
      | true =>
        rw [hmb] at hmx hs
        simp only [if_true] at hs
        replace hmx := Lib.hid hmx
        replace hbel := Lib.hid hbel
        replace hown := Lib.hid hown
        clear hmb
        by_cases h30 : n = 30
        · rw [if_pos h30] at hs
          replace hs := Lib.hid hs
          have e31 : (n : Int) + 1 = 31 := by omega
          replace h30 := Lib.hid h30
          go_upto_region 10 with (go_at_call 133; refine (hmx.out _).mono ?_; rintro e w2 ⟨rfl, hb2⟩; have o2 := Lib.hid (ownI_alloc (ownI_below hown.out hb2) (.cells #[.int .i64 847] 3)); replace hb2 := Lib.hid (below_on hbel.out hb2))
          have b2 := Lib.hid (hb2.out.alloc hb2.out.size (.cells #[.int .i64 847] 3))
          have s2 := Lib.hid (ri_src (ri_of_own (ownI_lit w.heap.size w2 [847] #[.int .i64 847] w2.heap.size 1 rfl hb2.out.size rfl rfl (by unfold maxLen; omega))))
          go_upto_region 11 with (at_builtin; refine wpList_append_src rfl _ _ 25 rfl w.heap.size 3 i0 (.int .i64 0) 8 Tryz.underlying25 hi hz0 hz1 hz2 rfl _ _ _ rfl o2.out _ _ rfl s2.out (oneCellI _) (by simp only [List.length_map, List.length_append, List.length_take, List.length_drop, List.length_cons, List.length_nil, List.length_singleton]; unfold maxLen; omega) (by simp only [List.length_map, List.length_append, List.length_take, List.length_drop, List.length_cons, List.length_nil, List.length_singleton]; omega) b2.out.size ?_; intro v5 w5 ho5 hg5; have o5 := Lib.hid (ownI_of_row (l := m ++ [847]) ho5 (by (try simp); try omega) (by (try simp); try omega)); have b5 := Lib.hid (below_row b2.out hg5 b2.out.size o2.out (Nat.le_refl _)); clear ho5 hg5)
          have hc5 : w5.cell? ⟨b, off + k, none⟩ = some (.int .i64 x) := (b5.out.cell hb).trans hc0.out
          have o6 := Lib.hid (ownI_alloc o5.out (.cells #[.int .i64 x] 3))
          have b6 := Lib.hid (b5.out.alloc b5.out.size (.cells #[.int .i64 x] 3))
          have s6 := Lib.hid (ri_src (ri_of_own (ownI_lit w.heap.size w5 [x] #[.int .i64 x] w5.heap.size 1 rfl b5.out.size rfl rfl (by unfold maxLen; omega))))
          go_wp2_with (at_builtin; refine wpList_append_src rfl _ _ 25 rfl w.heap.size 3 i0 (.int .i64 0) 8 Tryz.underlying25 hi hz0 hz1 hz2 rfl _ _ _ rfl o6.out _ _ rfl s6.out (oneCellI _) (by simp only [List.length_map, List.length_append, List.length_take, List.length_drop, List.length_cons, List.length_nil, List.length_singleton]; unfold maxLen; omega) (by simp only [List.length_map, List.length_append, List.length_take, List.length_drop, List.length_cons, List.length_nil, List.length_singleton]; omega) b6.out.size ?_; intro v7 w7 ho7 hg7; have o7 := Lib.hid (ownI_of_row (l := (m ++ [847]) ++ [x]) ho7 (by (try simp); try omega) (by (try simp); try omega)); have b7 := Lib.hid (below_row b6.out hg7 b6.out.size o6.out (Nat.le_refl _)); clear ho7 hg7)
          go_roundg (l.length - (k + 1))
          case measure => omega
          case rel => exact ⟨k + 1, 1, (m ++ [847]) ++ [x], by omega, by go_num, rfl, by omega, rfl, o7.out, by simp; omega, Lib.hid (by have := hs.out; simpa using this), b7.out⟩
        · rw [if_neg h30] at hs
          replace hs := Lib.hid hs
          have e31 : ((n : Int) + 1 == 31) = false := beq_eq_false_iff_ne.2 (by omega)
          have hn29 : n ≤ 29 := by omega
          go_upto_region 12 with (go_at_call 133; refine (hmx.out _).mono ?_; rintro e w2 ⟨rfl, hb2⟩; have o2 := Lib.hid (ownI_alloc (ownI_below hown.out hb2) (.cells #[.int .i64 x] 3)); replace hb2 := Lib.hid (below_on hbel.out hb2))
          have b2 := Lib.hid (hb2.out.alloc hb2.out.size (.cells #[.int .i64 x] 3))
          have s2 := Lib.hid (ri_src (ri_of_own (ownI_lit w.heap.size w2 [x] #[.int .i64 x] w2.heap.size 1 rfl hb2.out.size rfl rfl (by unfold maxLen; omega))))
          have hc2 : w2.cell? ⟨b, off + k, none⟩ = some (.int .i64 x) := (hb2.out.cell hb).trans hc0.out
          go_wp2_with (at_builtin; refine wpList_append_src rfl _ _ 25 rfl w.heap.size 3 i0 (.int .i64 0) 8 Tryz.underlying25 hi hz0 hz1 hz2 rfl _ _ _ rfl o2.out _ _ rfl s2.out (oneCellI _) (by simp only [List.length_map, List.length_append, List.length_take, List.length_drop, List.length_cons, List.length_nil, List.length_singleton]; unfold maxLen; omega) (by simp only [List.length_map, List.length_append, List.length_take, List.length_drop, List.length_cons, List.length_nil, List.length_singleton]; omega) b2.out.size ?_; intro v5 w5 ho5 hg5; have o5 := Lib.hid (ownI_of_row (l := m ++ [x]) ho5 (by (try simp); try omega) (by (try simp); try omega)); have b5 := Lib.hid (below_row b2.out hg5 b2.out.size o2.out (Nat.le_refl _)); clear ho5 hg5)
          go_roundg (l.length - (k + 1))
          case measure => omega
          case rel => exact ⟨k + 1, n + 1, m ++ [x], by omega, by go_num, by go_num, by omega, rfl, o5.out, by simp; omega, Lib.hid (by have := hs.out; simpa using this), b5.out⟩
      | false =>
        rw [hmb] at hmx hs
        simp only [Bool.false_eq_true, if_false] at hs
        replace hmx := Lib.hid hmx
        replace hs := Lib.hid hs
        replace hbel := Lib.hid hbel
        replace hown := Lib.hid hown
        clear hmb
        go_upto_region 12 with (go_at_call 133; refine (hmx.out _).mono ?_; rintro e w2 ⟨rfl, hb2⟩; have o2 := Lib.hid (ownI_alloc (ownI_below hown.out hb2) (.cells #[.int .i64 x] 3)); replace hb2 := Lib.hid (below_on hbel.out hb2))
        have b2 := Lib.hid (hb2.out.alloc hb2.out.size (.cells #[.int .i64 x] 3))
        have s2 := Lib.hid (ri_src (ri_of_own (ownI_lit w.heap.size w2 [x] #[.int .i64 x] w2.heap.size 1 rfl hb2.out.size rfl rfl (by unfold maxLen; omega))))
        have hc2 : w2.cell? ⟨b, off + k, none⟩ = some (.int .i64 x) := (hb2.out.cell hb).trans hc0.out
        go_wp2_with (at_builtin; refine wpList_append_src rfl _ _ 25 rfl w.heap.size 3 i0 (.int .i64 0) 8 Tryz.underlying25 hi hz0 hz1 hz2 rfl _ _ _ rfl o2.out _ _ rfl s2.out (oneCellI _) (by simp only [List.length_map, List.length_append, List.length_take, List.length_drop, List.length_cons, List.length_nil, List.length_singleton]; unfold maxLen; omega) (by simp only [List.length_map, List.length_append, List.length_take, List.length_drop, List.length_cons, List.length_nil, List.length_singleton]; omega) b2.out.size ?_; intro v5 w5 ho5 hg5; have o5 := Lib.hid (ownI_of_row (l := m ++ [x]) ho5 (by (try simp); try omega) (by (try simp); try omega)); have b5 := Lib.hid (below_row b2.out hg5 b2.out.size o2.out (Nat.le_refl _)); clear ho5 hg5)
        go_roundg (l.length - (k + 1))
        case measure => omega
        case rel => exact ⟨k + 1, 0, m ++ [x], by omega, by go_num, rfl, by omega, rfl, o5.out, by simp; omega, Lib.hid (by have := hs.out; simpa using this), b5.out⟩
    · obtain rfl : k = l.length := by omega
      have hlt' : decide ((l.length : Int) < (l.length : Int)) = false := by simp
      have hs := hsf.out
      rw [List.drop_length, Nfk.safeI, List.append_nil] at hs
      subst hs
      replace hown := Lib.hid hown
      replace hbel := Lib.hid hbel
      clear hsf hS
      go_wp2_with fail
      go_ret
      exact ⟨_, rfl, hown.out, hbel.out⟩
theorem rsafe_len (l : List Int) : (Nfk.safeI l 0).length ≤ 2 * l.length := by
  have h := Nfk.safe_len l 0 (by omega)
  omega
set_option maxHeartbeats 800000 in
set_option maxRecDepth 100000 in
theorem rnfkd_any (v : Value) (l : List Int) (w : World) (hl : l.length ≤ 100000) (hv : RI w v l) : Calls Tryz.prog 58 #[v] w (Makes (Nfk.nfkdI l) w) := by
  have h1 := Lib.hid (rmade_any v l w (by omega) hv)
  have hm := made_lenR l
  unfold Nfk.nfkdI
  obtain ⟨m, hm0⟩ : ∃ m, Nfk.madeI l = m := ⟨_, rfl⟩
  rw [hm0] at h1 hm ⊢
  have hsl := rsafe_len m
  obtain ⟨s, hs0⟩ : ∃ s, Nfk.safeI m 0 = s := ⟨_, rfl⟩
  rw [hs0] at hsl ⊢
  obtain ⟨o, ho0⟩ : ∃ o, Can.orderI s = o := ⟨_, rfl⟩
  rw [ho0]
  replace hs0 := Lib.hid hs0
  replace ho0 := Lib.hid ho0
  clear hm0
  go_enter Tryz.func58, Tryz.ntmps58
  go_wp2_with fail
  refine h1.out.mono ?_
  rintro e w1 ⟨v1, rfl, ho1, hb1⟩
  have h2 := rsafe_any v1 m w1 (by omega) (ri_of_own ho1)
  rw [hs0.out] at h2
  replace h2 := Lib.hid h2
  replace hb1 := Lib.hid hb1
  clear ho1
  go_wp2_with fail
  refine h2.out.mono ?_
  rintro e w2 ⟨v2, rfl, ho2, hb2⟩
  have h3 := rorder_any v2 s w2 (by omega) (ri_of_own ho2)
  rw [ho0.out] at h3
  replace h3 := Lib.hid h3
  replace hb2 := Lib.hid (below_on hb1.out hb2)
  clear ho2
  go_wp2_with fail
  refine h3.out.mono ?_
  rintro e w3 ⟨v3, rfl, ho3, hb3⟩
  have ho3' := Lib.hid (ownI_mono ho3 hb2.out.size)
  replace hb3 := Lib.hid (below_on hb2.out hb3)
  clear ho3
  go_wp2_with fail
  go_ret
  exact ⟨_, rfl, ho3'.out, hb3.out⟩
theorem nfkd_len (l : List Int) : (Nfk.nfkdI l).length ≤ 8 * l.length := by
  unfold Nfk.nfkdI
  rw [Can.orderI_len]
  have h1 := rsafe_len (Nfk.madeI l)
  have h2 := made_lenR l
  omega
theorem nfkc_len (l : List Int) : (Nfk.nfkcI l).length ≤ 8 * l.length := by
  have h1 := Can.compose_le (Nfk.nfkdI l)
  have h2 := nfkd_len l
  unfold Nfk.nfkcI
  omega
set_option maxHeartbeats 800000 in
set_option maxRecDepth 100000 in
theorem rnfkc_any (v : Value) (l : List Int) (w : World) (hl : l.length ≤ 100000) (hv : RI w v l) : Calls Tryz.prog 31 #[v] w (Makes (Nfk.nfkcI l) w) := by
  have h1 := Lib.hid (rnfkd_any v l w (by omega) hv)
  have hm := nfkd_len l
  unfold Nfk.nfkcI
  obtain ⟨m, hm0⟩ : ∃ m, Nfk.nfkdI l = m := ⟨_, rfl⟩
  rw [hm0] at h1 hm ⊢
  obtain ⟨o, ho0⟩ : ∃ o, Can.composeI m = o := ⟨_, rfl⟩
  rw [ho0]
  replace ho0 := Lib.hid ho0
  clear hm0
  go_enter Tryz.func31, Tryz.ntmps31
  go_wp2_with fail
  refine h1.out.mono ?_
  rintro e w1 ⟨v1, rfl, ho1, hb1⟩
  have h2 := rcompose_any v1 m w1 (by omega) (ri_of_own ho1)
  rw [ho0.out] at h2
  replace h2 := Lib.hid h2
  replace hb1 := Lib.hid hb1
  clear ho1
  go_wp2_with fail
  refine h2.out.mono ?_
  rintro e w3 ⟨v3, rfl, ho3, hb3⟩
  have ho3' := Lib.hid (ownI_mono ho3 hb1.out.size)
  replace hb3 := Lib.hid (below_on hb1.out hb3)
  clear ho3
  go_wp2_with fail
  go_ret
  exact ⟨_, rfl, ho3'.out, hb3.out⟩
end Go.Proofs.YtnlnkjaapdefiaaGreatDoor

