/- Texts that stand together. -/
import Derived.Test.YtnlnkjaapdefiaaGreatDoorMthP
import Derived.Test.YtnlnkjaapdefiaaGreatDoorBasP
import Derived.Test.YtnlnkjaapdefiaaGreatDoorMatP
import Derived.Test.YtnlnkjaapdefiaaGreatDoorCnP
import Derived.Test.YtnlnkjaapdefiaaGreatDoorDeP
import Derived.Deep.CutBlock
import Derived.Test.YtnlnkjaapdefiaaGreatDoorPaP
/- Layer 7, plain mathematics for the statements: neighbours in order, one value and two marks, numbers that an int holds. -/
namespace Go.Proofs.YtnlnkjaapdefiaaGreatDoor.Can
set_option linter.unusedSimpArgs false
set_option linter.unusedVariables false
open Prp (mrkB cccI)
open Dcp (fullI)
open Par (joinI)
theorem join_bd {a b x : Int} (h : joinI a b = some x) : 0 ≤ x ∧ x ≤ 9223372036854775807 := by
  refine ⟨by have := Par.join_pos h; omega, ?_⟩
  unfold joinI at h
  by_cases h1 : Par.LV a b
  · rw [if_pos h1] at h
    unfold Par.LV at h1
    have e : x = 0xAC00 + ((a - 0x1100) * 21 + (b - 0x1161)) * 28 := by simpa using h.symm
    omega
  rw [if_neg h1] at h
  by_cases h2 : Par.LVT a b
  · rw [if_pos h2] at h
    unfold Par.LVT at h2
    have e : x = a + b - 0x11A7 := by simpa using h.symm
    omega
  · rw [if_neg h2] at h
    have hf := Par.rows_far _ (Par.lookJ_mem h)
    dsimp only at hf
    omega
theorem wf_putR {r : Int} {R R' : List Int} (hR : WfI R) (h : putR (fun h => joinI h r) R = some R') : WfI R' := by
  induction R generalizing R' with
  | nil => cases h
  | cons x t ih =>
    unfold putR at h
    split at h
    · cases e : putR (fun h => joinI h r) t with
      | none => rw [e] at h; cases h
      | some u =>
        rw [e] at h
        obtain rfl : x :: u = R' := by simpa using h
        exact wfI_cons (hR x (List.mem_cons_self ..)) (ih (fun y hy => hR y (List.mem_cons_of_mem _ hy)) e)
    · cases e : joinI x r with
      | none => rw [e] at h; cases h
      | some u =>
        rw [e] at h
        obtain rfl : u :: t = R' := by simpa using h
        have := join_bd e
        exact wfI_cons (by omega) (fun y hy => hR y (List.mem_cons_of_mem _ hy))
theorem wf_cstep {R : List Int} {r : Int} (hR : WfI R) (hr : -9223372036854775808 ≤ r ∧ r ≤ 9223372036854775807) : WfI (cstep R r) := by
  unfold cstep
  split
  · exact wfI_cons hr hR
  · cases e : putR (fun h => joinI h r) R with
    | none => exact wfI_cons hr hR
    | some u => exact wf_putR hR e
theorem wf_compR {l : List Int} : ∀ {R : List Int}, WfI R → WfI l → WfI (compR l R) := by
  induction l with
  | nil => intro R h _; exact h
  | cons x t ih => intro R h hl; rw [compR_cons]; exact ih (wf_cstep h (hl x (List.mem_cons_self ..))) (fun y hy => hl y (List.mem_cons_of_mem _ hy))
theorem wf_compose {l : List Int} (h : WfI l) : WfI (composeI l) := fun x hx => wf_compR wfI_nil h x (List.mem_reverse.1 hx)
theorem rows_bd : ∀ s ∈ Dcp.T, ∀ x ∈ s.2, -9223372036854775808 ≤ x ∧ x ≤ 9223372036854775807 := by decide +kernel
theorem wf_full {r : Int} (hr : -9223372036854775808 ≤ r ∧ r ≤ 9223372036854775807) : WfI (fullI r) := by
  by_cases h1 : 0xAC00 ≤ r ∧ r ≤ 0xD7A3
  · rw [Dcp.full_syl h1]
    intro x hx
    have := Dcp.syl_parts (by omega) (by omega) x hx
    omega
  by_cases h2 : 0xFF01 ≤ r ∧ r ≤ 0xFF5E
  · rw [Dcp.full_wide h2]
    exact wfI_cons (by omega) wfI_nil
  unfold fullI
  rw [if_neg h1, if_neg h2]
  cases e : Lk.look Dcp.T r with
  | none => exact wfI_cons hr wfI_nil
  | some p => exact fun x hx => rows_bd _ (Lk.look_mem e) x hx
theorem wf_made {l : List Int} (h : WfI l) : WfI (l.flatMap fullI) := by
  intro x hx
  obtain ⟨y, hy, hxy⟩ := List.mem_flatMap.1 hx
  exact wf_full (h y hy) x hxy
theorem made_len (l : List Int) : (l.flatMap fullI).length ≤ 4 * l.length := by
  induction l with
  | nil => simp
  | cons x t ih =>
    rw [List.flatMap_cons, List.length_append, List.length_cons]
    have := (Dcp.full_len x).2
    omega
end Go.Proofs.YtnlnkjaapdefiaaGreatDoor.Can

/- Layer 8: what is asked of the code's functions; the document's example. -/
namespace Go.Proofs.YtnlnkjaapdefiaaGreatDoor
set_option linter.unusedSimpArgs false
set_option linter.unusedVariables false
open Go.RowKit Go.Lib
/-- what Made, Safe, Nfkd, Nfkc and Is of the code tell -/
def MadeC : Prop := ∀ (v : Value) (l : List Int) (w : World), l.length ≤ 10000 → RI w v l → WfI l → Calls Tryz.prog 28 #[v] w (Told (Nfk.madeI l) w)
def NfkdC : Prop := ∀ (v : Value) (l : List Int) (w : World), l.length ≤ 10000 → RI w v l → WfI l → Calls Tryz.prog 27 #[v] w (Told (Nfk.nfkdI l) w)
def NfkcC : Prop := ∀ (v : Value) (l : List Int) (w : World), l.length ≤ 10000 → RI w v l → WfI l → Calls Tryz.prog 26 #[v] w (Told (Nfk.nfkcI l) w)
theorem wf_madeN {l : List Int} (h : WfI l) : WfI (Nfk.madeI l) := Can.wf_made h
theorem wf_safe {l : List Int} (h : WfI l) : WfI (Nfk.safeI l 0) := fun x hx => by
  rcases Nfk.safe_mem hx with h1 | rfl
  · exact h x h1
  · omega
theorem wf_nfkd {l : List Int} (h : WfI l) : WfI (Nfk.nfkdI l) := wf_order (wf_safe (wf_madeN h))
theorem wf_nfkc {l : List Int} (h : WfI l) : WfI (Nfk.nfkcI l) := Can.wf_compose (wf_nfkd h)
theorem made_lenN (l : List Int) : (Nfk.madeI l).length ≤ 4 * l.length := Can.made_len l
theorem safe_lenN (l : List Int) : (Nfk.safeI l 0).length ≤ 2 * l.length := by
  have := Nfk.safe_len l 0 (by omega)
  omega
theorem nfkd_len (l : List Int) : (Nfk.nfkdI l).length ≤ 8 * l.length := by
  unfold Nfk.nfkdI
  rw [Can.orderI_len]
  have := safe_lenN (Nfk.madeI l)
  have := made_lenN l
  omega
theorem nfkc_len (l : List Int) : (Nfk.nfkcI l).length ≤ 8 * l.length := Nat.le_trans (Can.compose_le _) (nfkd_len l)
end Go.Proofs.YtnlnkjaapdefiaaGreatDoor

/- Layer 8: slices.Equal of whole numbers; the code's Made. -/
namespace Go.Proofs.YtnlnkjaapdefiaaGreatDoor
set_option linter.unusedSimpArgs false
set_option linter.unusedVariables false
open Go.RowKit Go.Lib
set_option maxHeartbeats 800000 in
set_option maxRecDepth 100000 in
theorem equal_some (b1 o1 c1 b2 o2 c2 : Nat) (l m : List Int) (w : World) (hl : l.length ≤ 100000) (hlm : l.length = m.length)
    (h1 : ∀ i (h : i < l.length), w.cell? ⟨b1, o1 + i, none⟩ = some (.int .i64 l[i])) (h2 : ∀ i (h : i < m.length), w.cell? ⟨b2, o2 + i, none⟩ = some (.int .i64 m[i])) :
    Calls Tryz.prog 48 #[.slice (some ⟨b1, o1, none⟩) l.length c1, .slice (some ⟨b2, o2, none⟩) m.length c2] w fun e w' => e = .returned (.bool (sameB l m)) ∧ ∃ n, w' = w.drewN n := by
  have e1 := beq_nat_int hlm
  have e3 := bne_nat_int' hlm
  have h1 := Lib.hid h1
  have h2 := Lib.hid h2
  have hlm' := Lib.hid hlm
  clear hlm
  go_enter Tryz.func48, Tryz.ntmps48
  go_wp2_with fail
  go_loopg [5, 13] l.length (fun g vx i wr => ∃ k : Nat, k ≤ l.length ∧ i = .int .i64 k ∧ g = l.length - k ∧ SameRel w l m k wr)
  case atStart => exact ⟨0, Nat.zero_le _, rfl, rfl, rfl, 0, rfl⟩
  case round =>
    obtain ⟨k, hk, rfl, rfl, hr⟩ := hrel
    obtain ⟨hr0, n, rfl⟩ := hr
    have hr0 := Lib.hid hr0
    by_cases hlt : k < l.length
    · have hlt2 : k < m.length := by have := hlm'.out; omega
      obtain ⟨x, hx⟩ : ∃ x, l[k] = x := ⟨_, rfl⟩
      obtain ⟨y, hy⟩ : ∃ y, m[k] = y := ⟨_, rfl⟩
      have hc1 : (w.drewN n).cell? ⟨b1, o1 + k, none⟩ = some (.int .i64 x) := by rw [← hx]; exact h1.out k hlt
      have hc2 : (w.drewN n).cell? ⟨b2, o2 + k, none⟩ = some (.int .i64 y) := by rw [← hy]; exact h2.out k hlt2
      have hx := Lib.hid hx
      have hy := Lib.hid hy
      have hi1 : (k : Int) < (l.length : Int) := by omega
      have hi2 : (k : Int) < (m.length : Int) := by omega
      by_cases hxy : x = y
      · have f1 : (x == y) = true := beq_iff_eq.2 hxy
        have f2 : (x != y) = false := by simp [hxy]
        have hst := Lib.hid (take_eq_succ hlt hlt2 hr0.out (hx.out.trans (hxy.trans hy.out.symm)))
        clear hxy
        go_wp2_with fail
        go_quiet (fail)
        go_wp2_with fail
        go_roundg (l.length - (k + 1))
        case measure => omega
        case rel => exact ⟨k + 1, by omega, by go_num, rfl, hst.out, _, by first | rfl | exact World.drewN_drewN _ _ _⟩
      · have f1 : (x == y) = false := beq_eq_false_iff_ne.2 hxy
        have f2 : (x != y) = true := by simp [hxy]
        have hst : sameB l m = false := by
          unfold sameB
          refine decide_eq_false fun e => hxy ?_
          subst e
          exact hx.out.symm.trans hy.out
        have hst := Lib.hid hst
        clear hxy
        go_wp2_with fail
        go_quiet (fail)
        go_wp2_with fail
        go_ret
        exact ⟨ret_bool hst.out.symm, _, by first | rfl | exact World.drewN_drewN _ _ _⟩
    · have hst : sameB l m = true := by
        unfold sameB
        have h0 := hr0.out
        have hk2 : k = l.length := by omega
        subst hk2
        rw [List.take_length, List.take_of_length_le (by have := hlm'.out; omega)] at h0
        exact decide_eq_true h0
      have hst := Lib.hid hst
      obtain rfl : k = l.length := by omega
      have hlt' : decide ((l.length : Int) < (l.length : Int)) = false := by simp
      go_wp2_with fail
      go_ret
      exact ⟨ret_bool hst.out.symm, n, rfl⟩
set_option maxHeartbeats 800000 in
set_option maxRecDepth 100000 in
/-- lists of two lengths -/
theorem equal_lens (v1 v2 : Option Addr) (n m c1 c2 : Nat) (w : World) (hlm : ¬ n = m) :
    Calls Tryz.prog 48 #[.slice v1 n c1, .slice v2 m c2] w fun e w' => e = .returned (.bool false) ∧ w = w' := by
  have e1 := bne_nat_int hlm
  have e3 : ((n : Int) != (m : Int)) = true := by simp; omega
  clear hlm
  go_enter Tryz.func48, Tryz.ntmps48
  go_wp2_with fail
  go_ret
  exact ⟨rfl, rfl⟩
set_option maxHeartbeats 800000 in
set_option maxRecDepth 100000 in
/-- two empty lists -/
theorem equal_empty (v1 v2 : Option Addr) (c1 c2 : Nat) (w : World) :
    Calls Tryz.prog 48 #[.slice v1 0 c1, .slice v2 0 c2] w fun e w' => e = .returned (.bool true) ∧ w = w' := by
  go_enter Tryz.func48, Tryz.ntmps48
  go_wp2_with fail
  refine wp_loop_rounds 1 ?_
  rw [rounds_succ]
  go_wp2_with fail
  go_ret
  exact ⟨rfl, rfl⟩
/-- slices.Equal, of whatever lists -/
theorem equal_any (v1 v2 : Value) (l m : List Int) (w : World) (hl : l.length ≤ 100000) (h1 : RI w v1 l) (h2 : RI w v2 m) :
    Calls Tryz.prog 48 #[v1, v2] w fun e w' => e = .returned (.bool (sameB l m)) ∧ ∃ n, w' = w.drewN n := by
  obtain ⟨p1, c1, rfl⟩ := ri_form h1
  obtain ⟨p2, c2, rfl⟩ := ri_form h2
  by_cases hlm : l.length = m.length
  · cases l with
    | nil =>
      cases m with
      | nil => exact (equal_empty p1 p2 c1 c2 w).mono fun e w' ⟨p, q⟩ => ⟨p, 0, q.symm⟩
      | cons y m => simp at hlm
    | cons x l =>
      obtain ⟨b1, o1, rfl, _, g1⟩ := ri_at h1 (by simp)
      obtain ⟨b2, o2, rfl, _, g2⟩ := ri_at h2 (by rw [← hlm]; simp)
      exact equal_some b1 o1 c1 b2 o2 c2 (x :: l) m w hl hlm g1 g2
  · have : sameB l m = false := decide_eq_false fun e => hlm (by rw [e])
    rw [this]
    exact (equal_lens p1 p2 _ _ c1 c2 w hlm).mono fun e w' ⟨p, q⟩ => ⟨p, 0, q.symm⟩
theorem Nfk.made_snoc (l : List Int) (x : Int) : Nfk.madeI (l ++ [x]) = Nfk.madeI l ++ Dcp.fullI x := by rw [Nfk.made_app]; simp [Nfk.madeI]
theorem fullOf8 (r : Int) (f : List Int) (h : Dcp.fullI r = f) (hr : -9223372036854775808 ≤ r ∧ r ≤ 9223372036854775807) (w : World) : Calls Tryz.prog 53 #[.int .i64 r] w (Told f w) := h ▸ fullC r w hr
set_option maxHeartbeats 3200000 in
set_option maxRecDepth 100000 in
theorem made_wide (v : Value) (l : List Int) (w : World) (hl : l.length ≤ 100000) (hv : RI w v l) (hwf : WfI l) : Calls Tryz.prog 28 #[v] w (Told (Nfk.madeI l) w) := by
  obtain ⟨i0, hi, hz0, hz1, hz2⟩ := info_parts info_i
  obtain ⟨p, cap, rfl⟩ := ri_form hv
  obtain ⟨X, hX, hmk⟩ := make_empty l.length (by omega)
  replace hv := Lib.hid hv
  replace hX := Lib.hid hX
  replace hwf := Lib.hid hwf
  obtain ⟨M, hM⟩ : ∃ M, Nfk.madeI l = M := ⟨_, rfl⟩
  rw [hM]
  replace hM := Lib.hid hM
  go_enter Tryz.func28, Tryz.ntmps28
  go_wp2_with fail
  go_loopg [3, 5, 11] l.length (fun g vt vx vi wr => ∃ k : Nat, k ≤ l.length ∧ vi = .int .i64 k ∧ g = l.length - k ∧ OwnI w.heap.size vt (Nfk.madeI (l.take k)) wr ∧ Below w.heap.size w wr)
  case atStart => exact ⟨0, Nat.zero_le _, rfl, rfl, own_empty w X l.length hX.out (by unfold maxLen; omega), below_new w _⟩
  case round =>
    obtain ⟨k, hk, rfl, rfl, hown, hbel⟩ := hrel
    by_cases hlt : k < l.length
    · have hlt' : (k : Int) < (l.length : Int) := by omega
      obtain ⟨b, off, rfl, hb, hcell⟩ := ri_at (ri_below hv.out hbel) (by omega)
      have hc := hcell k hlt
      have hxw := hwf.out l[k] (List.getElem_mem hlt)
      obtain ⟨x, hx⟩ : ∃ x, l[k] = x := ⟨_, rfl⟩
      have hsn : l.take (k + 1) = l.take k ++ [x] := by rw [List.take_succ_eq_append_getElem hlt, hx]
      rw [hx] at hc hxw
      have hstep := Nfk.made_snoc (l.take k) x
      rw [← hsn] at hstep
      have hlen := made_lenN (l.take k)
      rw [List.length_take] at hlen
      have hlx := made_lenN [x]
      simp only [Nfk.madeI, List.flatMap_cons, List.flatMap_nil, List.append_nil, List.length_singleton] at hlx
      obtain ⟨m, hm⟩ : ∃ m, Nfk.madeI (l.take k) = m := ⟨_, rfl⟩
      obtain ⟨f, hf⟩ : ∃ f, Dcp.fullI x = f := ⟨_, rfl⟩
      rw [hm] at hown hstep hlen
      rw [hf] at hstep hlx
      have h8a : m.length + f.length ≤ maxLen := by unfold maxLen; omega
      have h8b : (m.length + f.length) * 8 ≤ 140737488355328 := by omega
      have hcall := Lib.hid (fullOf8 x f hf hxw)
      replace h8a := Lib.hid h8a
      replace h8b := Lib.hid h8b
      obtain ⟨pt, ct, rfl⟩ := ri_form (ri_of_own hown)
      replace hstep := Lib.hid hstep
      replace hown := Lib.hid hown
      replace hbel := Lib.hid hbel
      clear hcell hsn hx hm hlen hlx hxw hf hmk
      go_wp2_with fail
      refine (hcall.out _).mono ?_
      rintro e w2 ⟨vf, rfl, hvf, hb2⟩
      have o2 := Lib.hid (ownI_below hown.out hb2)
      have b2 := Lib.hid (below_on hbel.out hb2)
      have s2 := Lib.hid (ri_src hvf)
      clear hcall hown hbel hb2 hvf hc
      go_wp2_with (at_builtin; refine wpList_append_src rfl _ _ 25 rfl w.heap.size 3 i0 (.int .i64 0) 8 Tryz.underlying25 hi hz0 hz1 hz2 rfl _ _ _ rfl o2.out _ _ rfl s2.out (oneCellI f) (by rw [List.length_map]; exact h8a.out) (by rw [List.length_map]; exact h8b.out) b2.out.size ?_; intro v5 w5 hown5 hgrow5; have o5 := Lib.hid (ownI_of_row (l := m ++ f) hown5 (by simp) (by simp)); have b5 := Lib.hid (below_row b2.out hgrow5 b2.out.size o2.out (Nat.le_refl _)); clear hown5 hgrow5)
      go_roundg (l.length - (k + 1))
      case measure => omega
      case rel => exact ⟨k + 1, by omega, by go_num, rfl, by rw [hstep.out]; exact o5.out, b5.out⟩
    · obtain rfl : k = l.length := by omega
      have hlt' : decide ((l.length : Int) < (l.length : Int)) = false := by simp
      rw [List.take_length, hM.out] at hown
      replace hown := Lib.hid hown
      replace hbel := Lib.hid hbel
      clear hmk
      go_wp2_with fail
      go_ret
      exact ⟨_, rfl, ri_of_own hown.out, hbel.out⟩
theorem madeC : MadeC := fun v l w hl hv hwf => made_wide v l w (by omega) hv hwf
end Go.Proofs.YtnlnkjaapdefiaaGreatDoor

/- Layer 8: the code's Safe. -/
namespace Go.Proofs.YtnlnkjaapdefiaaGreatDoor
set_option linter.unusedSimpArgs false
set_option linter.unusedVariables false
open Go.RowKit Go.Lib
namespace Nfk
open Prp (mrkB)
theorem safe_mark {x : Int} (t : List Int) {n : Nat} (hx : mrkB x = true) (hn : n < 30) : safeI (x :: t) n = x :: safeI t (n + 1) := by
  rw [safeI, if_pos hx, if_neg (by omega)]
theorem safe_letter {x : Int} (t : List Int) (n : Nat) (hx : mrkB x = false) : safeI (x :: t) n = x :: safeI t 0 := by
  rw [safeI, if_neg (by rw [hx]; simp)]
theorem safe_join {x : Int} (t : List Int) (hx : mrkB x = true) : safeI (x :: t) 30 = 847 :: safeI (x :: t) 0 := by
  rw [safeI, if_pos hx, if_pos rfl, safe_mark t hx (by omega)]
theorem safe_free {x : Int} (t : List Int) (n : Nat) (hx : mrkB x = false) : safeI (x :: t) n = safeI (x :: t) 0 := by
  rw [safe_letter t n hx, safe_letter t 0 hx]
/-- one more of a row -/
theorem safe_next {l : List Int} {j n : Nat} (hj : j < l.length) (hn : n < 30) {T M : List Int} (h : T ++ safeI (l.drop j) n = M) :
    (mrkB l[j] = true → (T ++ [l[j]]) ++ safeI (l.drop (j + 1)) (n + 1) = M) ∧ (mrkB l[j] = false → (T ++ [l[j]]) ++ safeI (l.drop (j + 1)) 0 = M) := by
  rw [List.drop_eq_getElem_cons hj] at h
  refine ⟨fun hx => ?_, fun hx => ?_⟩
  · rw [safe_mark _ hx hn] at h
    rw [← h]; simp
  · rw [safe_letter _ n hx] at h
    rw [← h]; simp
/-- a row of thirty is full -/
theorem safe_full {l : List Int} {j : Nat} (hj : j < l.length) {T M : List Int} (h : T ++ safeI (l.drop j) 30 = M) :
    (mrkB l[j] = true → (T ++ [847]) ++ safeI (l.drop j) 0 = M) ∧ (mrkB l[j] = false → T ++ safeI (l.drop j) 0 = M) := by
  rw [List.drop_eq_getElem_cons hj] at h ⊢
  refine ⟨fun hx => ?_, fun hx => ?_⟩
  · rw [safe_join _ hx] at h
    rw [← h]; simp
  · rw [safe_free _ 30 hx] at h
    exact h
end Nfk
set_option maxHeartbeats 6400000 in
set_option maxRecDepth 100000 in
theorem safe_any8 (v : Value) (l : List Int) (w : World) (hl : l.length ≤ 500000) (hv : RI w v l) : Calls Tryz.prog 52 #[v] w (Told (Nfk.safeI l 0) w) := by
  obtain ⟨i0, hi, hz0, hz1, hz2⟩ := info_parts info_i
  obtain ⟨p, cap, rfl⟩ := ri_form hv
  have hcap := (ri_cap hv).2.1
  obtain ⟨X, hX, hmk⟩ := make_empty l.length (by omega)
  replace hv := Lib.hid hv
  replace hX := Lib.hid hX
  obtain ⟨M, hM⟩ : ∃ M, Nfk.safeI l 0 = M := ⟨_, rfl⟩
  rw [hM]
  replace hM := Lib.hid hM
  go_enter Tryz.func52, Tryz.ntmps52
  go_wp2
  go_step3
  go_wp2
  go_step3
  go_wp2
  clear hmk
  go_loopg [3, 4, 6] l.length (fun g vt vn vr wr => ∃ (k : Nat) (T : List Int), k ≤ l.length ∧ vn = .int .i64 k ∧ g = l.length - k ∧ OwnI w.heap.size vt T wr ∧ Hid (T ++ Nfk.safeI (l.drop k) 0 = M) ∧ T.length ≤ 2 * k ∧ Below w.heap.size w wr)
  case atStart => exact ⟨0, [], Nat.zero_le _, rfl, rfl, own_empty w X l.length hX.out (by unfold maxLen; omega), Lib.hid hM.out, Nat.le_refl _, below_new w _⟩
  case round =>
    obtain ⟨k, T, hk, rfl, rfl, hown, hst, hT, hbel⟩ := hrel
    by_cases hlt : k < l.length
    · have hlt' : (k : Int) < (l.length : Int) := by omega
      obtain ⟨b, off, rfl, hb, hcell⟩ := ri_at hv.out (by omega)
      have hcell' := fun (W : World) (hW : Below w.heap.size w W) (q : Nat) (hq : q < l.length) => (hW.cell (p := ⟨b, off + q, none⟩) hb).trans (hcell q hq)
      replace hcell' := Lib.hid hcell'
      replace hown := Lib.hid hown
      replace hbel := Lib.hid hbel
      clear hcell
      go_upto_block 2 with fail
      obtain ⟨m, hm⟩ : ∃ m, (min ((k : Int) + 30) (l.length : Int)).toNat - k = m := ⟨_, rfl⟩
      have hm30 : m ≤ 30 := by omega
      have hmL : k + m ≤ l.length := by omega
      have hm2 : m = 30 ∨ k + m = l.length := by omega
      have hm0 : 0 < m := by omega
      rw [hm]
      generalize min ((k : Int) + 30) (l.length : Int) = mn at hm ⊢
      replace hm2 := Lib.hid hm2
      clear hm hcap
      go_wp2_with fail
      go_loopg [3, 4, 6, 23] m (fun g vt vn vr vi wr => ∃ (i j : Nat) (T : List Int), i ≤ m ∧ Hid (j = k + i) ∧ vi = .int .i64 i ∧ vn = .int .i64 j ∧ g = m - i ∧ OwnI w.heap.size vt T wr ∧ Hid (T ++ Nfk.safeI (l.drop j) i = M) ∧ T.length ≤ 2 * k + i ∧ Below w.heap.size w wr)
      case atStart => exact ⟨0, k, T, Nat.zero_le _, Lib.hid rfl, rfl, rfl, rfl, hown.out, hst, hT, hbel.out⟩
      case round =>
        clear hown hbel hst hT
        obtain ⟨i, j, T, hile, hj, rfl, rfl, rfl, hown, hst, hT, hbel⟩ := hrel
        replace hown := Lib.hid hown
        replace hbel := Lib.hid hbel
        have hTm : T.length ≤ 1500000 := by omega
        by_cases him : i < m
        · have him' : (i : Int) < (m : Int) := by omega
          have hjl : j < l.length := by have := hj.out; omega
          have hc := hcell'.out wr hbel.out j hjl
          have hnext := Nfk.safe_next hjl (by omega) hst.out
          obtain ⟨x, hx⟩ : ∃ x, l[j] = x := ⟨_, rfl⟩
          rw [hx] at hc hnext
          rw [show off + j = off + k + i by have := hj.out; omega] at hc
          obtain ⟨pt, ct, rfl⟩ := ri_form (ri_of_own hown.out)
          have o3 := Lib.hid (ownI_alloc hown.out (.cells #[.int .i64 x] 3))
          have b3 := Lib.hid (hbel.out.alloc hbel.out.size (.cells #[.int .i64 x] 3))
          have s3 := Lib.hid (ri_src (ri_of_own (ownI_lit w.heap.size wr [x] #[.int .i64 x] wr.heap.size 1 rfl hbel.out.size rfl rfl (by unfold maxLen; omega))))
          have hj1 : (j : Int) + 1 ≤ 9223372036854775807 := by omega
          have hTn : (T ++ [x]).length = T.length + 1 := by simp
          replace hTn := Lib.hid hTn
          replace hj1 := Lib.hid hj1
          clear hx hst hown
          cases hmb : Prp.mrkB x with
          | true =>
            have hn := Lib.hid (hnext.1 hmb)
            have hmx := Lib.hid (markOf7 x true hmb)
            clear hnext hmb
            go_wp2_with (at_builtin; refine wpList_append_src rfl _ _ 25 rfl w.heap.size 3 i0 (.int .i64 0) 8 Tryz.underlying25 hi hz0 hz1 hz2 rfl _ _ _ rfl o3.out _ _ rfl s3.out (oneCellI _) (by simp only [List.length_map, List.length_append, List.length_take, List.length_drop, List.length_cons, List.length_nil, List.length_singleton]; unfold maxLen; omega) (by simp only [List.length_map, List.length_append, List.length_take, List.length_drop, List.length_cons, List.length_nil, List.length_singleton]; omega) b3.out.size ?_; intro v5 w5 ho5 hg5; have o5 := Lib.hid (ownI_of_row (l := T ++ [x]) ho5 (by (try simp); try omega) (by (try simp); try omega)); have b5 := Lib.hid (below_row b3.out hg5 b3.out.size o3.out (Nat.le_refl _)); clear ho5 hg5)
            refine (hmx.out _).mono ?_
            rintro e w6 ⟨rfl, hb6⟩
            have o6 := Lib.hid (ownI_below o5.out hb6)
            have b6 := Lib.hid (below_on b5.out hb6)
            clear hb6
            go_wp2_with fail
            go_roundg (m - (i + 1))
            case measure => omega
            case rel => exact ⟨i + 1, j + 1, T ++ [x], by omega, Lib.hid (by have := hj.out; omega), by go_num, by go_num, rfl, o6.out, hn, by rw [hTn.out]; omega, b6.out⟩
          | false =>
            have hn := Lib.hid (hnext.2 hmb)
            have hmx := Lib.hid (markOf7 x false hmb)
            clear hnext hmb
            go_wp2_with (at_builtin; refine wpList_append_src rfl _ _ 25 rfl w.heap.size 3 i0 (.int .i64 0) 8 Tryz.underlying25 hi hz0 hz1 hz2 rfl _ _ _ rfl o3.out _ _ rfl s3.out (oneCellI _) (by simp only [List.length_map, List.length_append, List.length_take, List.length_drop, List.length_cons, List.length_nil, List.length_singleton]; unfold maxLen; omega) (by simp only [List.length_map, List.length_append, List.length_take, List.length_drop, List.length_cons, List.length_nil, List.length_singleton]; omega) b3.out.size ?_; intro v5 w5 ho5 hg5; have o5 := Lib.hid (ownI_of_row (l := T ++ [x]) ho5 (by (try simp); try omega) (by (try simp); try omega)); have b5 := Lib.hid (below_row b3.out hg5 b3.out.size o3.out (Nat.le_refl _)); clear ho5 hg5)
            refine (hmx.out _).mono ?_
            rintro e w6 ⟨rfl, hb6⟩
            have o6 := Lib.hid (ownI_below o5.out hb6)
            have b6 := Lib.hid (below_on b5.out hb6)
            clear hb6
            go_wp2_with fail
            go_roundg (l.length - (j + 1))
            case measure => have := hj.out; omega
            case rel => exact ⟨j + 1, T ++ [x], by omega, by go_num, rfl, o6.out, hn, by have := hj.out; rw [hTn.out]; omega, b6.out⟩
        · obtain rfl : i = m := by omega
          have him' : decide ((i : Int) < (i : Int)) = false := by simp
          by_cases hjl : j < l.length
          · have hjl' : (j : Int) < (l.length : Int) := by omega
            have hi30 : i = 30 := by have := hj.out; rcases hm2.out with h | h <;> omega
            have hc := hcell'.out wr hbel.out j hjl
            have hst' := hst.out
            rw [hi30] at hst'
            have hnext := Nfk.safe_full hjl hst'
            obtain ⟨x, hx⟩ : ∃ x, l[j] = x := ⟨_, rfl⟩
            rw [hx] at hc hnext
            replace hi30 := Lib.hid hi30
            obtain ⟨pt, ct, rfl⟩ := ri_form (ri_of_own hown.out)
            clear hx hst'
            cases hmb : Prp.mrkB x with
            | true =>
              have hn := Lib.hid (hnext.1 hmb)
              have hmx := Lib.hid (markOf7 x true hmb)
              clear hnext hmb
              go_wp2_with fail
              refine (hmx.out _).mono ?_
              rintro e w6 ⟨rfl, hb6⟩
              have o6 := ownI_below hown.out hb6
              have b6 := below_on hbel.out hb6
              have o3 := Lib.hid (ownI_alloc o6 (.cells #[.int .i64 847] 3))
              have b3 := Lib.hid (b6.alloc b6.size (.cells #[.int .i64 847] 3))
              have s3 := Lib.hid (ri_src (ri_of_own (ownI_lit w.heap.size w6 [847] #[.int .i64 847] w6.heap.size 1 rfl b6.size rfl rfl (by unfold maxLen; omega))))
              clear hb6 o6 b6 hown hbel hst
              go_wp2_with (at_builtin; refine wpList_append_src rfl _ _ 25 rfl w.heap.size 3 i0 (.int .i64 0) 8 Tryz.underlying25 hi hz0 hz1 hz2 rfl _ _ _ rfl o3.out _ _ rfl s3.out (oneCellI _) (by simp only [List.length_map, List.length_append, List.length_take, List.length_drop, List.length_cons, List.length_nil, List.length_singleton]; unfold maxLen; omega) (by simp only [List.length_map, List.length_append, List.length_take, List.length_drop, List.length_cons, List.length_nil, List.length_singleton]; omega) b3.out.size ?_; intro v5 w5 ho5 hg5; have o5 := Lib.hid (ownI_of_row (l := T ++ [847]) ho5 (by (try simp); try omega) (by (try simp); try omega)); have b5 := Lib.hid (below_row b3.out hg5 b3.out.size o3.out (Nat.le_refl _)); clear ho5 hg5)
              go_roundg (l.length - j)
              case measure => have := hj.out; omega
              case rel => exact ⟨j, T ++ [847], by omega, rfl, rfl, o5.out, hn, by have := hj.out; have := hi30.out; simp only [List.length_append, List.length_singleton]; omega, b5.out⟩
            | false =>
              have hn := Lib.hid (hnext.2 hmb)
              have hmx := Lib.hid (markOf7 x false hmb)
              clear hnext hmb
              go_wp2_with fail
              refine (hmx.out _).mono ?_
              rintro e w6 ⟨rfl, hb6⟩
              have o6 := Lib.hid (ownI_below hown.out hb6)
              have b6 := Lib.hid (below_on hbel.out hb6)
              clear hb6 hown hbel hst
              go_wp2_with fail
              go_roundg (l.length - j)
              case measure => have := hj.out; omega
              case rel => exact ⟨j, T, by omega, rfl, rfl, o6.out, hn, by have := hj.out; omega, b6.out⟩
          · have hjl' : ¬ (j : Int) < (l.length : Int) := by omega
            have hjL : j = l.length := by have := hj.out; omega
            have hn : Hid (T ++ Nfk.safeI (l.drop j) 0 = M) := Lib.hid (by
              have h := hst.out
              rw [List.drop_of_length_le (by omega)] at h ⊢
              exact h)
            replace hjL := Lib.hid hjL
            obtain ⟨pt, ct, rfl⟩ := ri_form (ri_of_own hown.out)
            clear hst
            go_wp2_with fail
            go_roundg (l.length - j)
            case measure => have := hj.out; have := hjL.out; omega
            case rel => exact ⟨j, T, by have := hjL.out; omega, rfl, rfl, hown.out, hn, by have := hj.out; omega, hbel.out⟩
    · obtain rfl : k = l.length := by omega
      have hlt' : decide ((l.length : Int) < (l.length : Int)) = false := by simp
      have hfin : T = M := by have := hst.out; rw [List.drop_length] at this; simpa [Nfk.safeI] using this
      subst hfin
      replace hown := Lib.hid hown
      replace hbel := Lib.hid hbel
      obtain ⟨pt, ct, rfl⟩ := ri_form (ri_of_own hown.out)
      clear hst hM
      go_wp2_with fail
      try rw [Exit.noGoto_ret]
      go_ret
      exact ⟨_, rfl, ri_of_own hown.out, hbel.out⟩
end Go.Proofs.YtnlnkjaapdefiaaGreatDoor

/- Layer 8: the code's Nfkd, Nfkc, Is. -/
namespace Go.Proofs.YtnlnkjaapdefiaaGreatDoor
set_option linter.unusedSimpArgs false
set_option linter.unusedVariables false
open Go.RowKit Go.Lib
set_option maxHeartbeats 1600000 in
set_option maxRecDepth 100000 in
theorem nfkd_wide (v : Value) (l : List Int) (w : World) (hl : l.length ≤ 60000) (hv : RI w v l) (hwf : WfI l) : Calls Tryz.prog 27 #[v] w (Told (Nfk.nfkdI l) w) := by
  have h1 := made_wide v l w (by omega) hv hwf
  have hl1 := made_lenN l
  have hl2 := safe_lenN (Nfk.madeI l)
  have hd : Nfk.nfkdI l = Can.orderI (Nfk.safeI (Nfk.madeI l) 0) := rfl
  rw [hd]
  have h2 := fun v' W h => safe_any8 v' (Nfk.madeI l) W (by omega) h
  have h3 := fun v' W h => order_any7 v' (Nfk.safeI (Nfk.madeI l) 0) W (by omega) h
  obtain ⟨p, cap, rfl⟩ := ri_form hv
  replace h1 := Lib.hid h1
  replace h2 := Lib.hid h2
  replace h3 := Lib.hid h3
  clear hd hl1 hl2
  go_enter Tryz.func27, Tryz.ntmps27
  go_wp2_with fail
  refine h1.out.mono ?_
  rintro e w1 ⟨v1, rfl, r1, b1⟩
  replace b1 := Lib.hid b1
  replace r1 := Lib.hid r1
  go_wp2_with fail
  refine (h2.out _ _ r1.out).mono ?_
  rintro e w2 ⟨v2, rfl, r2, b2⟩
  replace b2 := Lib.hid (below_on b1.out b2)
  replace r2 := Lib.hid r2
  go_wp2_with fail
  refine (h3.out _ _ r2.out).mono ?_
  rintro e w3 ⟨v3, rfl, r3, b3⟩
  replace b3 := Lib.hid (below_on b2.out b3)
  replace r3 := Lib.hid r3
  go_wp2_with fail
  go_ret
  exact ⟨_, rfl, r3.out, b3.out⟩
set_option maxHeartbeats 1600000 in
set_option maxRecDepth 100000 in
theorem nfkc_wide (v : Value) (l : List Int) (w : World) (hl : l.length ≤ 60000) (hv : RI w v l) (hwf : WfI l) : Calls Tryz.prog 26 #[v] w (Told (Nfk.nfkcI l) w) := by
  have h1 := nfkd_wide v l w hl hv hwf
  have hl1 := nfkd_len l
  have hd : Nfk.nfkcI l = Can.composeI (Nfk.nfkdI l) := rfl
  rw [hd]
  have h2 := fun v' W h => compose_any7 joinYes joinNot v' (Nfk.nfkdI l) W (by omega) h
  obtain ⟨p, cap, rfl⟩ := ri_form hv
  replace h1 := Lib.hid h1
  replace h2 := Lib.hid h2
  clear hd hl1
  go_enter Tryz.func26, Tryz.ntmps26
  go_wp2_with fail
  refine h1.out.mono ?_
  rintro e w1 ⟨v1, rfl, r1, b1⟩
  replace b1 := Lib.hid b1
  replace r1 := Lib.hid r1
  go_wp2_with fail
  refine (h2.out _ _ r1.out).mono ?_
  rintro e w2 ⟨v2, rfl, r2, b2⟩
  replace b2 := Lib.hid (below_on b1.out b2)
  replace r2 := Lib.hid r2
  go_wp2_with fail
  go_ret
  exact ⟨_, rfl, r2.out, b2.out⟩
theorem nfkdC : NfkdC := fun v l w hl hv hwf => nfkd_wide v l w (by omega) hv hwf
theorem nfkcC : NfkcC := fun v l w hl hv hwf => nfkc_wide v l w (by omega) hv hwf
set_option maxHeartbeats 1600000 in
set_option maxRecDepth 100000 in
theorem form_wide (v : Value) (l : List Int) (w : World) (hl : l.length ≤ 12000) (hv : RI w v l) (hwf : WfI l) : Calls Tryz.prog 23 #[v] w fun e w' => e = .returned (.bool (sameB (Nfk.nfkcI l) l)) ∧ Below w.heap.size w w' := by
  have h1 := nfkc_wide v l w (by omega) hv hwf
  have hl1 := nfkc_len l
  have h2 := fun v1 v2 W a b => equal_any v1 v2 (Nfk.nfkcI l) l W (by omega) a b
  obtain ⟨p, cap, rfl⟩ := ri_form hv
  obtain ⟨c, hc⟩ : ∃ c, sameB (Nfk.nfkcI l) l = c := ⟨_, rfl⟩
  rw [hc] at h2 ⊢
  replace hv := Lib.hid hv
  replace h1 := Lib.hid h1
  replace h2 := Lib.hid h2
  clear hc hl1
  go_enter Tryz.func23, Tryz.ntmps23
  go_wp2_with fail
  refine h1.out.mono ?_
  rintro e w1 ⟨v1, rfl, r1, b1⟩
  have r0 := Lib.hid (ri_below hv.out b1)
  replace b1 := Lib.hid b1
  replace r1 := Lib.hid r1
  go_wp2_with fail
  refine (h2.out _ _ _ r1.out r0.out).mono ?_
  rintro e w2 ⟨rfl, n, rfl⟩
  have b2 := Lib.hid (below_on b1.out (drewN_below w1 n))
  go_wp2_with fail
  go_ret
  exact ⟨rfl, b2.out⟩
end Go.Proofs.YtnlnkjaapdefiaaGreatDoor

